import PyProof.Rows.All
import Wide.All
import OpenK.AllK
import Wide.FinOn
import PyProof.EqAt
import PyProof.EqKinds
import PyProof.TupleCall
import KE.BitLaws
import Open.SpecLaws
import KE.OsHead
import KE.OsGo
import PySem.Challenge.RW_proofpaths_s01_answers
set_option Elab.async false
set_option linter.all false
set_option maxRecDepth 100000
set_option maxHeartbeats 4000000
theorem U.{u}{α:Sort u}{a:α}:a=a:=rfl
def ay:=@Option.some.inj
def aI:=@List.length_map
def aM:=@Nat.le_refl
def aX:=@List.length_cons
def a_:=@List.mem_cons
def bb:=@Bool.and_eq_true
def bj:=@Nat.zero_le
def br:=@List.getElem?_eq_getElem
def bC:=@List.mem_of_getElem?
def bL:=@List.length_append
def cC:=@Option.bind_eq_some_iff
def cN:=@List.mem_append
def cO:=@Nat.le_trans
def cP:=@List.getElem?_eq_some_iff
def cY:=@Option.bind_some
def c9:=@List.mem_map
def c_:=@List.cons.inj
def da:=@List.map_cons
def dJ:=@List.size_toArray
def dQ:=@List.getElem?_append_left
def eu:=@Option.map_eq_some_iff
def ez:=@List.getElem?_map
def eM:=@List.getElem?_append_right
def fe:=@List.mem_cons_of_mem
def fq:=@List.nodup_cons
def ft:=@Nat.zero_add
def fK:=@List.append_assoc
def fL:=@Bool.false_ne_true
def fZ:=@List.getElem?_cons_succ
def f6:=@Nat.ne_of_lt
def gn:=@List.mem_flatMap
def gC:=@List.mem_cons_self
def gD:=@List.map_append
def gE:=@List.flatMap_cons
def gT:=@Nat.lt_of_lt_of_le
def iB:=@List.all_cons
def iC:=@List.all_eq_true
def iD:=@List.append_nil
def iE:=@List.length_drop
def iF:=@List.filterMap_cons
def iG:=@Bool.eq_iff_iff
def iY:=@List.mem_append_right
def iZ:=@Int.toNat_natCast
def jq:=@List.mem_range
def jr:=@Nat.sub_zero
def js:=@Prod.mk.inj
def jN:=@List.mem_iff_getElem?
def jO:=@List.map_map
def jP:=@List.drop_eq_getElem_cons
def jQ:=@List.getElem?_eq_none
def kI:=@List.length_nil
def kJ:=@Nat.lt_irrefl
def kK:=@List.take_length
def kL:=@List.drop_zero
def kM:=@List.filter_cons
def lD:=@Option.map_some
def lF:=@List.cons_append
def lG:=@List.drop_length
def mS:=@List.nil_append
def mT:=@List.mem_append_left
def mU:=@List.getElem?_set_ne
def mV:=@Bool.true_and
def mW:=@List.pairwise_cons
def mX:=@List.length_take
def nW:=@List.foldr_cons
def nX:=@List.getElem?_drop
def nY:=@List.nodup_nil
def nZ:=@List.getD_eq_getElem?_getD
def n0:=@List.getElem?_set_self
def n6:=@List.find?_cons
def n8:=@Bool.false_and
def n9:=@List.any_cons
def n_:=@Bool.and_false
def oa:=@List.map_drop
def oe:=@List.dropLast_concat
def og:=@Nat.lt_or_ge
def oh:=@List.range_eq_range'
def px:=@List.flatMap_append
def pz:=@Bool.false_eq_true
def pC:=@Nat.add_zero
def pD:=@Nat.add_assoc
def pE:=@List.length_replicate
def pF:=@List.take_of_length_le
def pG:=@List.map_nil
def pH:=@List.map_take
def qI:=@Bool.or_eq_true
def qJ:=@List.nodup_append
def qK:=@List.getElem?_range
def qL:=@List.range'_succ
def qM:=@List.foldl_cons
def qN:=@Nat.sub_self
def qO:=@Bool.or_false
def qP:=@List.lookup_cons
def qQ:=@List.length_pos_iff
def sP:=@List.drop_drop
def sQ:=@List.length_filter_le
def sR:=@List.zip_cons_cons
def sS:=@List.map_congr_left
def sT:=@List.range_succ
def sU:=@List.length_set
def sV:=@List.mem_filter
def sW:=@Bool.eq_false_iff
def sX:=@List.mem_filterMap
def sY:=@List.filterMap_eq_map'
def sZ:=@List.length_reverse
def s_:=@List.cons.injEq
def uR:=@List.dropWhile_cons
def uS:=@List.take_append_drop
def uT:=@List.foldl_append
def uU:=@List.eraseDups_cons
def uV:=@Option.some.injEq
def uW:=@List.getElem?_zip_eq_some
def uX:=@List.length_eq_zero_iff
def uY:=@List.filterMap_append
def uZ:=@Bool.false_or
def u0:=@Nat.le_add_right
def u4:=@List.reverse_cons
def u5:=@Nat.min_eq_left
def u6:=@Option.map_map
def xQ:=@List.dropWhile_sublist
def xR:=@List.not_mem_nil
def xS:=@List.getElem?_reverse
def xT:=@List.filter_eq_self
def xU:=@List.getElem?_cons_zero
def xV:=@List.mem_of_mem_drop
def xW:=@List.getElem_inj
def xX:=@Bool.not_false
def xY:=@List.findIdx?_append
def xZ:=@List.pairwise_iff_getElem
def x4:=@List.ext_getElem?
def x5:=@List.takeWhile_cons
def x6:=@Option.filter_some
def x8:=@Option.filter_eq_some_iff
def x9:=@Nat.le_of_lt
def x_:=@Nat.le_of_eq
def ya:=@Nat.le_of_succ_le
def yb:=@Nat.lt_of_le_of_lt
def yc:=@List.sum_cons
def yd:=@List.any_nil
def ye:=@List.all_append
def yf:=@List.map_set
def Bi:=@List.foldr_append
def Bj:=@List.mem_reverse
def Bk:=@List.flatMap_nil
def Bl:=@List.find?_cons_of_pos
def Bm:=@List.drop_sublist
def Bn:=@List.mem_of_find?_eq_some
def Bo:=@List.replicate_append_replicate
def Bp:=@List.getElem_mem
def Bq:=@List.mem_iff_getElem
def Br:=@List.getElem_zip
def Bs:=@List.take_succ_cons
def Bt:=@List.map_flatMap
def Bu:=@List.mem_of_mem_take
def Bv:=@Nat.lt_succ_self
def Bw:=@List.of_mem_zip
def Bx:=@Nat.lt_succ_of_lt
def By:=@List.take_add_one
def Bz:=@Nat.mul_le_mul_right
def BA:=@List.head?_cons
def HH:=@List.findIdx?_eq_some_iff_getElem
def HI:=@Option.not_isSome_iff_eq_none
namespace PM
open Vaneta
inductive Pd where
 |gp
 |gF
 |cf (par:Bool) (A:Formula)
 |arr (A:Formula)
structure MS where
 form:Option Formula
 pend:List Pd
def kN(par:Bool)(A B:Formula):Formula:=if par=true then .par A B else .tensor A B
def eN(A:Formula):List Pd->Formula×List Pd
 | .gp::r=>eN (dual A) r
 |p=>(A,p)
def de(A:Formula):List Pd->Formula×List Pd
 | .cf b B::r=>de (kN b B A) r
 |p=>(A,p)
def jR(A:Formula):List Pd->Formula×List Pd
 | .arr B::r=>jR (.par (dual B) A) r
 |p=>(A,p)
def gq(A:Formula)(p:List Pd):Formula×List Pd:=jR (de A p).1 (de A p).2
def push(e:Pd)(p:List Pd):Option MS:=if p.length<100 then some ⟨none,e::p⟩else none
def QP:List Pd->Option Bool
 | .cf b _::_=>some b
 |_=>none
def i5(b:Bool)(A:Formula)(p:List Pd):Option MS:=
 match QP p with
 |some b'=>if b'=b then push (.cf b A) p else none
 |none=>push (.cf b A) p
def takeRight(A:Formula)(p:List Pd):Option MS:=
 match gq A p with
 |(B, .gF::r)=>some ⟨some (eN B r).1,(eN B r).2⟩
 |_=>none
def take(s:MS)(k:Token):Option MS:=
 match s.form with
 |none=>match k with
  | .name a=>some ⟨some (eN (.atom false a) s.pend).1,(eN (.atom false a) s.pend).2⟩
  | .sign c=>if c=126 then push .gp s.pend else if c=40 then push .gF s.pend else none
  | .arrow=>none
 |some A=>match k with
  | .name _=>none
  | .sign c=>if c=42 then i5 false A s.pend else if c=124 then i5 true A s.pend else if c=41 then takeRight A s.pend else none
  | .arrow=>push (.arr (de A s.pend).1) (de A s.pend).2
def whole(s:MS):Option Formula:=
 match s.form with
 |none=>none
 |some A=>match gq A s.pend with
  |(B,[])=>some B
  |_=>none
def run:MS->List Token->Option Formula
 |s,[]=>whole s
 |s,k::r=>match take s k with
  |some s'=>run s' r
  |none=>none
def fu:Token->Bool
 | .name _| .arrow=>true
 | .sign c=>c==126||(c==42||(c==124||(c==40||c==41)))
def BB:List Pd->Bool
 | .gp::_=>true
 |_=>false
def yg:List Pd->Bool
 | .cf _ _::_=>true
 |_=>false
def pI:List Pd->UInt8
 | .cf b _::_=>if b=true then 124 else 42
 |_=>0
theorem QQ(b:Bool)(A B:Formula):two (if b=true then 124 else 42) A B=kN b A B:=by
 cases b<;>rfl
def runC(A:Formula)(p:List Pd)(r:List Token):Option Formula:=
 match r with
 | .sign c::_=>if c=42\/c=124 then none else run ⟨some A,p⟩ r
 |_=>run ⟨some A,p⟩ r
def kO(A:Formula)(p:List Pd)(r:List Token):Option Formula:=
 match r with
 |[]=>run ⟨some A,p⟩ r
 | .sign c::_=>if c=41 then run ⟨some A,p⟩ r else none
 |_=>none
theorem QR(b:Bool)(A B:Formula)(p:List Pd)(r:List Token):runC A (.cf b B::p) r=runC (kN b B A) p r:=by
 unfold runC;cases r with
 |nil=>rfl
 |cons k r=>
  cases k with
  |name a|arrow=>rfl
  |sign c=>
   by_cases h:c=42\/c=124
   ·simp only[if_pos h]
   ·simp only[if_neg h]
    have h1:¬c=42:=λe=>h (.inl e);have h2:¬c=124:=λe=>h (.inr e);simp only[run,take,if_neg h1,if_neg h2];by_cases h3:c=41
    ·simp only[if_pos h3];rfl
    ·simp only[if_neg h3]
theorem QS(A B:Formula)(p:List Pd)(r:List Token)(h:yg p=false):kO A (.arr B::p) r=kO (.par (dual B) A) p r:=by
 have e:de (.par (dual B) A) p=(.par (dual B) A,p):=by
  cases p with
  |nil=>rfl
  |cons q p=>cases q<;>first|rfl|cases h
 have e2:gq A (.arr B::p)=gq (.par (dual B) A) p:=by unfold gq;rw[e];rfl
 unfold kO;cases r with
 |nil=>simp only[run,whole,e2]
 |cons k r=>
  cases k with
  |name a|arrow=>rfl
  |sign c=>
   by_cases h:c=41
   ·subst h
    show(match takeRight A (.arr B::p)with|some s'=>run s' r|none=>none)=(match takeRight (.par (dual B) A) p with|some s'=>run s' r|none=>none);simp only[takeRight,e2]
   ·simp only[if_neg h]
theorem HJ(A:Formula)(p:List Pd)(h:BB p=false):eN A p=(A,p):=by
 cases p with
 |nil=>rfl
 |cons q p=>cases q<;>first|rfl|cases h
theorem HK(A:Formula)(p:List Pd)(h:yg p=false):de A p=(A,p):=by
 cases p with
 |nil=>rfl
 |cons q p=>cases q<;>first|rfl|cases h
theorem QT(p:List Pd)(h:yg p=false):pI p=0:=by
 cases p with
 |nil=>rfl
 |cons q p=>cases q<;>first|rfl|cases h
def u7(f d:Nat)(x:Formula×List Token):Option (Formula×List Token):=match x.2 with
 | .arrow::r=>if d<OPEN then(level f 0 0 (d+1) r).map λy=>(.par (dual x.1) y.1,y.2)else none
 |_=>some x
def tf(f d:Nat)(sign:UInt8)(x:Formula×List Token):Option (Formula×List Token):=match x.2 with
 | .sign c::r=>if isTwo c=true/\ (sign=0\/sign=c)then(if d<OPEN then(level f 1 c (d+1) r).map λy=>(two c x.1 y.1,y.2)else none)else some x
 |_=>some x
def brk(y:Formula×List Token):Option (Formula×List Token):=match y.2 with
 | .sign 41::s=>some (y.1,s)
 |_=>none
def u9(f d:Nat)(ts:List Token):Option (Formula×List Token):=match ts with
 | .name a::r=>some (.atom false a,r)
 | .sign c::r=>
  if d<OPEN then
   (if c=126 then(level f 2 0 (d+1) r).map λy=>(dual y.1,y.2)
   else if c=33 then(level f 2 0 (d+1) r).map λy=>(.ofc y.1,y.2)
   else if c=63 then(level f 2 0 (d+1) r).map λy=>(.whn y.1,y.2)
   else if c=40 then(level f 0 0 (d+1) r).bind brk
   else none)
  else none
 |_=>none
theorem tj(f k:Nat)(sg:UInt8)(d:Nat)(ts:List Token):level (f+1) k sg d ts=
  if k=0 then(level f 1 0 d ts).bind (u7 f d)else if k=1 then(level f 2 0 d ts).bind (tf f d sg)else u9 f d ts:=by
 rfl
theorem mY:∀(f k:Nat) (sg:UInt8) (d:Nat) (ts:List Token) (A:Formula) (r:List Token),level f k sg d ts=some (A,r)->∃pre,ts=pre++r/\ pre≠ []
 |0,_,_,_,_,_,_,h=>by simp[level]at h
 |f+1,k,sg,d,ts,A,r,h=>by
  rw[tj]at h;by_cases k0:k=0
  ·rw[if_pos k0]at h
   obtain⟨x,hx,h⟩:=cC.mp h;obtain⟨pre,e,ne⟩:=mY f 1 0 d ts x.1 x.2 hx;unfold u7 at h;split at h
   ·rename_i r' hr
    split at h
    ·obtain⟨y,hy,h⟩:=eu.mp h
     obtain⟨pre',e',ne'⟩:=mY f 0 0 (d+1) r' y.1 y.2 hy;cases h;exact⟨pre++ .arrow::pre',by rw[e,hr,e'];simp,by simp⟩
    ·cases h
   ·cases h;exact⟨pre,e,ne⟩
  ·rw[if_neg k0]at h
   by_cases k1:k=1
   ·rw[if_pos k1]at h
    obtain⟨x,hx,h⟩:=cC.mp h;obtain⟨pre,e,ne⟩:=mY f 2 0 d ts x.1 x.2 hx;unfold tf at h;split at h
    ·rename_i c r' hr
     split at h
     ·split at h
      ·obtain⟨y,hy,h⟩:=eu.mp h
       obtain⟨pre',e',ne'⟩:=mY f 1 c (d+1) r' y.1 y.2 hy;cases h;exact⟨pre++ .sign c::pre',by rw[e,hr,e'];simp,by simp⟩
      ·cases h
     ·cases h;exact⟨pre,e,ne⟩
    ·cases h;exact⟨pre,e,ne⟩
   ·rw[if_neg k1]at h
    unfold u9 at h;split at h
    ·rename_i a r'
     cases h;exact⟨[.name a],U,by simp⟩
    ·rename_i c r'
     split at h
     ·split at h
      ·obtain⟨y,hy,h⟩:=eu.mp h
       obtain⟨pre',e',ne'⟩:=mY f 2 0 (d+1) r' y.1 y.2 hy;cases h;exact⟨.sign c::pre',by rw[e'];simp,by simp⟩
      ·split at h
       ·obtain⟨y,hy,h⟩:=eu.mp h
        obtain⟨pre',e',ne'⟩:=mY f 2 0 (d+1) r' y.1 y.2 hy;cases h;exact⟨.sign c::pre',by rw[e'];simp,by simp⟩
       ·split at h
        ·obtain⟨y,hy,h⟩:=eu.mp h
         obtain⟨pre',e',ne'⟩:=mY f 2 0 (d+1) r' y.1 y.2 hy;cases h;exact⟨.sign c::pre',by rw[e'];simp,by simp⟩
        ·split at h
         ·obtain⟨y,hy,h⟩:=cC.mp h
          obtain⟨pre',e',ne'⟩:=mY f 0 0 (d+1) r' y.1 y.2 hy;unfold brk at h;split at h
          ·rename_i s hs
           cases h;exact⟨.sign c::(pre'++[.sign 41]),by rw[e',hs];simp,by simp⟩
          ·cases h
         ·cases h
     ·cases h
    ·cases h
theorem HL{f k:Nat}{sg:UInt8}{d:Nat}{ts:List Token}{A:Formula}{r:List Token}(h:level f k sg d ts=some (A,r)):r.length<ts.length:=by obtain⟨pre,e,ne⟩:=mY f k sg d ts A r h;have:0<pre.length:=qQ.mpr ne;rw[e,bL];omega
theorem yh{f k:Nat}{sg:UInt8}{d:Nat}{ts:List Token}{A:Formula}{r:List Token}(h:level f k sg d ts=some (A,r))(ok:∀t∈ts,fu t=true):∀t∈r,fu t=true:=by obtain⟨pre,e,ne⟩:=mY f k sg d ts A r h;intro t ht;exact ok t (by rw[e];exact iY _ ht)
def QU(p:List Pd):Option (Formula×List Token)->Option Formula
 |none=>none
 |some (A,r)=>run ⟨some (eN A p).1,(eN A p).2⟩ r
def QV(p:List Pd):Option (Formula×List Token)->Option Formula
 |none=>none
 |some (A,r)=>runC A p r
def HM(p:List Pd):Option (Formula×List Token)->Option Formula
 |none=>none
 |some (A,r)=>kO A p r
theorem tm{c:UInt8}(h:fu (.sign c)=true):c=126\/c=42\/c=124\/c=40\/c=41:=by simp only[fu,qI,beq_iff_eq]at h;exact h
theorem main(f:Nat):∀(ts:List Token) (p:List Pd),(∀k∈ts,fu k=true)->
  (4*ts.length+1<=f->run ⟨none,p⟩ ts=QU p (level f 2 0 p.length ts))/\
  (4*ts.length+2<=f->BB p=false->run ⟨none,p⟩ ts=QV p (level f 1 (pI p) p.length ts))/\
  (4*ts.length+3<=f->BB p=false->yg p=false->run ⟨none,p⟩ ts=HM p (level f 0 0 p.length ts)):=by
 induction f with
 |zero=>intro ts p _;exact⟨λh=>by omega,λh=>by omega,λh=>by omega⟩
 |succ f ih=>
  intro ts p ok;refine⟨λhf=>?_,λhf ht=>?_,λhf ht hc=>?_⟩
  ·rw[tj,if_neg (by decide),if_neg (by decide)]
   cases ts with
   |nil=>rfl
   |cons k ts=>
    have okr:∀k∈ts,fu k=true:=λk hk=>ok k (fe _ hk);rw[aX]at hf;cases k with
    |name a|arrow=>rfl
    |sign c=>
     have oc:=tm (ok _ (gC ..));simp only[run,take,u9];by_cases hd:p.length<100
     ·rw[if_pos (show p.length<OPEN from hd)]
      by_cases h1:c=126
      ·subst h1
       simp only[if_pos,push,if_pos hd];rw[(ih ts (.gp::p) okr).1 (by omega)];rw[aX];cases level f 2 0 (p.length+1) ts with
       |none|some y=>rfl
      ·rw[if_neg h1,if_neg h1]
       by_cases h2:c=40
       ·subst h2
        simp only[if_pos,push,if_pos hd];rw[if_neg (by decide),if_neg (by decide)];rw[(ih ts (.gF::p) okr).2.2 (by omega) U U];rw[aX];cases hl:level f 0 0 (p.length+1) ts with
        |none=>rfl
        |some y=>
         obtain⟨A,r⟩:=y;show kO A (.gF::p) r=_;cases r with
         |nil=>rfl
         |cons k r=>
          cases k with
          |name a|arrow=>rfl
          |sign c=>
           by_cases BC:c=41
           ·subst BC;rfl
           ·unfold kO
            simp only[if_neg BC,cY];unfold brk;split
            ·rename_i s e
             simp only[s_,Token.sign.injEq]at e;exact absurd e.1 BC
            ·rfl
       ·rw[if_neg h2,if_neg (by rintro rfl;revert oc;decide),if_neg (by rintro rfl;revert oc;decide),if_neg h2]
        rfl
     ·rw[if_neg (show¬p.length<OPEN from hd)]
      simp only[push,if_neg hd];by_cases h1:c=126
      ·rw[if_pos h1];rfl
      ·rw[if_neg h1]
       by_cases h2:c=40
       ·rw[if_pos h2];rfl
       ·rw[if_neg h2];rfl
  ·rw[tj,if_neg (by decide),if_pos U]
   rw[(ih ts p ok).1 (by omega)];cases hl:level f 2 0 p.length ts with
   |none=>rfl
   |some x=>
    obtain⟨A,r⟩:=x;have lr:=HL hl;have okr:=yh hl ok;show run ⟨some (eN A p).1,(eN A p).2⟩ r=_;rw[HJ A p ht];simp only[cY];cases r with
    |nil=>rfl
    |cons k r=>
     rw[aX]at lr;cases k with
     |name a|arrow=>rfl
     |sign c=>
      have oc:=tm (okr _ (gC ..));have okr':∀k∈r,fu k=true:=λk hk=>okr k (fe _ hk);by_cases h2:c=42\/c=124
      ·obtain⟨b,hb⟩:∃b:Bool,c=(if b=true then 124 else 42):=by
        rcases h2 with h|h
        ·exact⟨false,h⟩
        ·exact⟨true,h⟩
       have BD:isTwo c=true:=by rcases h2 with rfl|rfl<;>rfl
       have bP:run ⟨some A,p⟩ (.sign c::r)=(match i5 b A p with|some s'=>run s' r|none=>none):=by
        cases b
        ·have e:c=42:=hb
         subst e;rfl
        ·have e:c=124:=hb
         subst e;rfl
       show run ⟨some A,p⟩ (.sign c::r)=_;rw[bP];simp only[tf];by_cases hs:pI p=0\/pI p=c
       ·rw[if_pos ⟨BD,hs⟩]
        have BE:i5 b A p=push (.cf b A) p:=by
         unfold i5;cases p with
         |nil=>rfl
         |cons q p=>
          cases q with
          |cf b' B=>
           have:b'=b:=by
            cases b'<;>cases b<;>first|rfl|(exfalso;subst hb;revert hs;simp[pI])
           show(if b'=b then _ else _)=_;rw[if_pos this]
          |_=>rfl
        rw[BE];by_cases hd:p.length<100
        ·rw[if_pos (show p.length<OPEN from hd)]
         simp only[push,if_pos hd];rw[(ih r (.cf b A::p) okr').2.1 (by omega) U];have e3:pI (.cf b A::p)=c:=hb.symm;rw[e3,aX];cases level f 1 c (p.length+1) r with
         |none=>rfl
         |some y=>show runC y.1 (.cf b A::p) y.2=runC (two c A y.1) p y.2;rw[QR,hb,QQ]
        ·rw[if_neg (show¬p.length<OPEN from hd)]
         simp only[push,if_neg hd];rfl
       ·rw[if_neg (λz=>hs z.2)]
        have BE:i5 b A p=none:=by
         unfold i5;cases p with
         |nil=>exact absurd (Or.inl U) hs
         |cons q p=>
          cases q with
          |cf b' B=>
           have:¬b'=b:=by rintro rfl;exact hs (.inr hb.symm)
           show(if b'=b then _ else _)=_;rw[if_neg this]
          |_=>exact absurd (Or.inl U) hs
        rw[BE];show none=runC A p (.sign c::r);unfold runC;simp only[if_pos h2]
      ·have BD:¬(isTwo c=true/\ (pI p=0\/pI p=c)):=by
        intro z;have z1:=z.1;rcases oc with rfl|rfl|rfl|rfl|rfl
        ·exact absurd z1 (by decide)
        ·exact h2 (.inl U)
        ·exact h2 (.inr U)
        ·exact absurd z1 (by decide)
        ·exact absurd z1 (by decide)
       simp only[tf];rw[if_neg BD];show _=runC A p (.sign c::r);unfold runC;simp only[if_neg h2]
  ·rw[tj,if_pos U]
   rw[(ih ts p ok).2.1 (by omega) ht,QT p hc];cases hl:level f 1 0 p.length ts with
   |none=>rfl
   |some x=>
    obtain⟨A,r⟩:=x;have lr:=HL hl;have okr:=yh hl ok;show runC A p r=_;simp only[cY];cases r with
    |nil=>rfl
    |cons k r=>
     rw[aX]at lr;cases k with
     |name a=>rfl
     |arrow=>
      have okr':∀k∈r,fu k=true:=λk hk=>okr k (fe _ hk);show(match push (.arr (de A p).1) (de A p).2 with|some s'=>run s' r|none=>none)=_;rw[HK A p hc];simp only[u7];by_cases hd:p.length<100
      ·simp only[if_pos (show p.length<OPEN from hd)]
       simp only[push,if_pos hd];rw[(ih r (.arr A::p) okr').2.2 (by omega) U U,aX];cases level f 0 0 (p.length+1) r with
       |none=>rfl
       |some y=>show kO y.1 (.arr A::p) y.2=kO (.par (dual A) y.1) p y.2;exact QS _ _ _ _ hc
      ·simp only[if_neg (show¬p.length<OPEN from hd)]
       simp only[push,if_neg hd];rfl
     |sign c=>show runC A p (.sign c::r)=kO A p (.sign c::r);unfold runC kO;have oc:=tm (okr _ (gC ..));rcases oc with rfl|rfl|rfl|rfl|rfl<;>rfl
theorem run_eq(ts:List Token)(ok:∀k∈ts,fu k=true):run ⟨none,[]⟩ ts=formulaIn ts:=by
 rw[(main (4*(ts.length+1)) ts [] ok).2.2 (by omega) U U];unfold formulaIn;show HM [] (level _ 0 0 0 ts)=_;cases level (4*(ts.length+1)) 0 0 0 ts with
 |none=>rfl
 |some x=>
  obtain⟨A,r⟩:=x;show kO A [] r=_;cases r with
  |nil=>rfl
  |cons k r=>
   cases k with
   |name a|arrow=>rfl
   |sign c=>
    unfold kO;by_cases h:c=41
    ·subst h;rfl
    ·simp only[if_neg h]
open Vanetc
abbrev Node:=Nat×Name
def enc:Formula->List Node
 | .atom n a=>[(if n=true then 1 else 0,a)]
 | .tensor A B=>(2,[])::(enc A++enc B)
 | .par A B=>(3,[])::(enc A++enc B)
 | .wth A B=>(4,[])::(enc A++enc B)
 | .plus A B=>(5,[])::(enc A++enc B)
 | .ofc A=>(6,[])::enc A
 | .whn A=>(7,[])::enc A
def yi(k:Nat):Nat:=if k%2=0 then k+1 else k-1
def qR(x:Node):Node:=(yi x.1,x.2)
def bR(x:Node):Bool:=decide (2<=x.1)
def gU(x:Bool×Name):Node:=(if x.1=true then 1 else 0,x.2)
theorem bJ:∀A:Formula,(enc A).length=nodes A
 | .atom n a=>rfl
 | .tensor A B| .par A B| .wth A B| .plus A B=>by simp only[enc,nodes,aX,bL,bJ A,bJ B];omega
 | .ofc A| .whn A=>by simp only[enc,nodes,aX,bJ A];omega
theorem BF(A:Formula):enc A≠ []:=by cases A<;>simp[enc]
theorem jS:∀A:Formula,enc (dual A)=(enc A).map qR
 | .atom n a=>by cases n<;>rfl
 | .tensor A B| .par A B| .wth A B| .plus A B=>by simp only[enc,dual,da,gD,jS A,jS B];rfl
 | .ofc A| .whn A=>by simp only[enc,dual,da,jS A];rfl
theorem jt:∀(A:Formula),multiplicative A=true->∀x∈enc A,x.1<4
 | .atom n a,_=>by intro x hx;simp only[enc,List.mem_singleton]at hx;subst hx;cases n<;>simp
 | .tensor A B,h| .par A B,h=>by
  simp only[multiplicative,bb]at h;intro x hx;simp only[enc,a_,cN]at hx;rcases hx with rfl|hx|hx
  ·decide
  ·exact jt A h.1 x hx
  ·exact jt B h.2 x hx
 | .wth A B,h| .plus A B,h| .ofc A,h| .whn A,h=>by simp[multiplicative]at h
theorem u_:∀(A:Formula),(enc A).filter (λx=> !bR x)=(leaves A).map gU
 | .atom n a=>by cases n<;>rfl
 | .tensor A B| .par A B| .wth A B| .plus A B=>by simp only[enc,leaves,kM,List.filter_append,u_ A,u_ B,gD];rfl
 | .ofc A| .whn A=>by simp only[enc,leaves,kM,u_ A];rfl
theorem qS:∀A:Formula,(leaves A).length=atoms A
 | .atom n a=>rfl
 | .tensor A B| .par A B| .wth A B| .plus A B=>by simp only[leaves,atoms,bL,qS A,qS B]
 | .ofc A| .whn A=>qS A
theorem jT:∀A:Formula,multiplicative (dual A)=multiplicative A
 | .atom n a=>rfl
 | .tensor A B| .par A B=>by simp only[dual,multiplicative,jT A,jT B]
 | .wth A B| .plus A B| .ofc A| .whn A=>rfl
theorem lH:∀A:Formula,atoms (dual A)=atoms A
 | .atom n a=>rfl
 | .tensor A B| .par A B| .wth A B| .plus A B=>by simp only[dual,atoms,lH A,lH B]
 | .ofc A| .whn A=>lH A
theorem yj(A:Formula):nodes (dual A)=nodes A:=by rw[<-bJ,jS,aI,bJ]
theorem yk:∀A:Formula,deep (dual A)=deep A
 | .atom n a=>rfl
 | .tensor A B| .par A B| .wth A B| .plus A B=>by simp only[dual,deep,yk A,yk B]
 | .ofc A| .whn A=>by simp only[dual,deep,yk A]
theorem QW(A:Formula):inBounds (dual A)=inBounds A:=by unfold inBounds;rw[lH,yj,yk]
theorem qU:∀A:Formula,multiplicative A=true->nodes A+1=2*atoms A
 | .atom n a,_=>rfl
 | .tensor A B,h| .par A B,h=>by simp only[multiplicative,bb]at h;have:=qU A h.1;have:=qU B h.2;simp only[nodes,atoms];omega
 | .wth A B,h| .plus A B,h| .ofc A,h| .whn A,h=>by simp[multiplicative]at h
theorem HN{A:Formula}(h:multiplicative A=true):inBounds A=(decide (atoms A<=60)&&decide (deep A<=40)):=by
 have:=qU A h;unfold inBounds;by_cases h1:atoms A<=60
 ·rw[decide_eq_true h1,decide_eq_true (show nodes A<=200 by omega)];rfl
 ·rw[decide_eq_false h1];rfl
def mZ(x:Node)(st:List Nat):List Nat:=if bR x=true then(match st with
 |a::b::r=>(1+max a b)::r
 |_=>st)else 1::st
theorem dfold:∀(A:Formula),multiplicative A=true->∀st,(enc A).foldr mZ st=deep A::st
 | .atom n a,_,st=>by cases n<;>rfl
 | .tensor A B,h,st| .par A B,h,st=>by simp only[multiplicative,bb]at h;simp only[enc,nW,Bi,dfold A h.1,dfold B h.2];rfl
 | .wth A B,h,_| .plus A B,h,_| .ofc A,h,_| .whn A,h,_=>by simp[multiplicative]at h
abbrev Wr:=Nat×Text
def oj(k:Nat)(x y:Wr):Text:=paren (decide (2<=x.1)) x.2++(if k=2 then 42 else 124)::paren (decide (2<=y.1)&&y.1 !=k) y.2
def qV(x:Node):Text:=if x.1=1 then 126::x.2 else x.2
def gW(x:Node)(st:List Wr):List Wr:=if bR x=true then(match st with
 |a::b::r=>(x.1,oj x.1 a b)::r
 |_=>st)else(x.1,qV x)::st
def kindOf:Formula->Nat
 | .atom n _=>if n=true then 1 else 0
 | .tensor _ _=>2
 | .par _ _=>3
 | .wth _ _=>4
 | .plus _ _=>5
 | .ofc _=>6
 | .whn _=>7
theorem QX{A:Formula}(h:multiplicative A=true):(signOf A !=0)=decide (2<=kindOf A):=by
 cases A with
 |atom n a=>cases n<;>rfl
 |tensor A B|par A B=>rfl
 |wth A B|plus A B|ofc A|whn A=>simp[multiplicative]at h
theorem HP{A B:Formula}(hA:multiplicative A=true)(hB:multiplicative B=true)(k:Nat)(hk:k=2\/k=3):
  oj k (kindOf A,form A) (kindOf B,form B)=chain (if k=2 then 42 else 124) (signOf A) (signOf B) (form A) (form B):=by
 unfold oj chain;rw[QX hA];congr 3;cases B with
 |atom n a=>cases n<;>rcases hk with rfl|rfl<;>rfl
 |tensor A B|par A B=>rcases hk with rfl|rfl<;>rfl
 |wth A B|plus A B|ofc A|whn A=>simp[multiplicative]at hB
theorem tp:∀(A:Formula),multiplicative A=true->∀st,(enc A).foldr gW st=(kindOf A,form A)::st
 | .atom n a,_,st=>by cases n<;>rfl
 | .tensor A B,h,st=>by simp only[multiplicative,bb]at h;simp only[enc,nW,Bi,tp A h.1,tp B h.2];show(2,oj 2 (kindOf A,form A) (kindOf B,form B))::st=_;rw[HP h.1 h.2 2 (.inl U)];rfl
 | .par A B,h,st=>by simp only[multiplicative,bb]at h;simp only[enc,nW,Bi,tp A h.1,tp B h.2];show(3,oj 3 (kindOf A,form A) (kindOf B,form B))::st=_;rw[HP h.1 h.2 3 (.inr U)];rfl
 | .wth A B,h,_| .plus A B,h,_| .ofc A,h,_| .whn A,h,_=>by simp[multiplicative]at h
def vc(f:Nat)(r:Text):Option (List Token):=match r with
 |111::s=>(tokensFrom f s).map λl=> .arrow::l
 |_=>none
theorem BG(f:Nat)(c:UInt8)(r:Text):tokensFrom (f+1) (c::r)=
  if c=32 then tokensFrom f r
  else if isSign c=true then(tokensFrom f r).map λl=> .sign c::l
  else if c=45 then vc f r
  else if isWord c=true then
   (if isName (c::r.takeWhile isWord)=true then(tokensFrom f (r.dropWhile isWord)).map λl=> .name (c::r.takeWhile isWord)::l else none)
  else none:=rfl
theorem BH:∀(f g:Nat) (t:Text),t.length<f->t.length<g->tokensFrom f t=tokensFrom g t
 |0,_,_,h,_|_,0,_,_,h=>by omega
 |f+1,g+1,[],_,_=>rfl
 |f+1,g+1,c::r,hf,hg=>by
  simp only[aX]at hf hg;have ih:∀s:Text,s.length<=r.length->tokensFrom f s=tokensFrom g s:=λs hs=>BH f g s (by omega) (by omega);have hd:(r.dropWhile isWord).length<=r.length:=(xQ _).length_le;have ha:vc f r=vc g r:=by
   unfold vc;split
   ·rename_i s;rw[ih s (by simp)]
   ·rfl
  rw[BG,BG,ih r (aM _),ih _ hd,ha]
def arr?(r:Text):Option (Token×Text):=match r with
 |111::s=>some (.arrow,s)
 |_=>none
def one?(c:UInt8)(r:Text):Option (Token×Text):=
 if isSign c=true then some (.sign c,r)
 else if c=45 then arr? r
 else if isWord c=true then
  (if isName (c::r.takeWhile isWord)=true then some (.name (c::r.takeWhile isWord),r.dropWhile isWord)else none)
 else none
theorem QY(c:UInt8)(r:Text):tokens (c::r)=if c=32 then tokens r else(one? c r).bind λx=>(tokens x.2).map λl=>x.1::l:=by
 have hd:(r.dropWhile isWord).length<=r.length:=(xQ _).length_le;show tokensFrom (r.length+1+1) (c::r)=_;unfold tokens;rw[BG];by_cases h0:c=32
 ·rw[if_pos h0,if_pos h0]
 ·rw[if_neg h0,if_neg h0]
  unfold one?;by_cases h1:isSign c=true
  ·rw[if_pos h1,if_pos h1];rfl
  ·rw[if_neg h1,if_neg h1]
   by_cases h2:c=45
   ·rw[if_pos h2,if_pos h2]
    unfold vc arr?;split
    ·rename_i s
     show Option.map _ _=Option.map _ _;rw[BH (List.length (111::s)+1) (s.length+1) s (by simp;omega) (by omega)]
    ·rfl
   ·rw[if_neg h2,if_neg h2]
    by_cases h3:isWord c=true
    ·rw[if_pos h3,if_pos h3]
     split
     ·show Option.map _ _=Option.map _ _
      rw[BH (r.length+1) ((r.dropWhile isWord).length+1) _ (by omega) (by omega)]
     ·rfl
    ·rw[if_neg h3,if_neg h3];rfl
def ju(l:List Token):Bool:=l.all fu
def toks(t:Text):Option (List Token):=(tokens t).filter ju
def lI(c:UInt8)(r:Text):Option (Token×Text):=(one? c r).filter λx=>fu x.1
theorem BI:toks []=some []:=rfl
theorem BJ(c:UInt8)(r:Text):toks (c::r)=if c=32 then toks r else(lI c r).bind λx=>(toks x.2).map λl=>x.1::l:=by
 unfold toks lI;rw[QY];by_cases h0:c=32
 ·rw[if_pos h0,if_pos h0]
 ·rw[if_neg h0,if_neg h0]
  cases one? c r with
  |none=>rfl
  |some x=>
   simp only[cY];cases hx:fu x.1 with
   |true=>
    simp only[Option.filter,hx,if_true,cY];cases tokens x.2 with
    |none=>rfl
    |some l=>
     have e:ju (x.1::l)=ju l:=by unfold ju;rw[iB,hx];rfl
     simp only[lD,e];cases ju l<;>rfl
   |false=>
    simp only[Option.filter,hx];cases tokens x.2 with
    |none=>rfl
    |some l=>simp[ju,hx]
theorem QZ{c:UInt8}{A B:Formula}(h:multiplicative (two c A B)=true):(c=42\/c=124)/\ multiplicative A=true/\ multiplicative B=true:=by
 unfold two at h;split at h
 ·rename_i e
  simp only[multiplicative,bb]at h;exact⟨.inl e,h⟩
 ·split at h
  ·rename_i e
   simp only[multiplicative,bb]at h;exact⟨.inr e,h⟩
  ·split at h<;>simp[multiplicative]at h
theorem m4:∀(f k:Nat) (sg:UInt8) (d:Nat) (ts:List Token) (A:Formula) (r:List Token),level f k sg d ts=some (A,r)->multiplicative A=true->∃pre,ts=pre++r/\ ∀t∈pre,fu t=true
 |0,_,_,_,_,_,_,h,_=>by simp[level]at h
 |f+1,k,sg,d,ts,A,r,h,hm=>by
  rw[tj]at h;by_cases k0:k=0
  ·rw[if_pos k0]at h
   obtain⟨x,hx,h⟩:=cC.mp h;unfold u7 at h;split at h
   ·rename_i r' hr
    split at h
    ·obtain⟨y,hy,h⟩:=eu.mp h
     cases h;simp only[multiplicative,bb,jT]at hm;obtain⟨pre,e,o⟩:=m4 f 1 0 d ts x.1 x.2 hx hm.1;obtain⟨pre',e',o'⟩:=m4 f 0 0 (d+1) r' y.1 y.2 hy hm.2;refine⟨pre++ .arrow::pre',by rw[e,hr,e'];simp,λt ht=>?_⟩;simp only[cN,a_]at ht;rcases ht with ht|rfl|ht
     ·exact o t ht
     ·rfl
     ·exact o' t ht
    ·cases h
   ·cases h;exact m4 f 1 0 d ts _ _ hx hm
  ·rw[if_neg k0]at h
   by_cases k1:k=1
   ·rw[if_pos k1]at h
    obtain⟨x,hx,h⟩:=cC.mp h;unfold tf at h;split at h
    ·rename_i c r' hr
     split at h
     ·split at h
      ·obtain⟨y,hy,h⟩:=eu.mp h
       cases h;obtain⟨hc,vf,om⟩:=QZ hm;obtain⟨pre,e,o⟩:=m4 f 2 0 d ts x.1 x.2 hx vf;obtain⟨pre',e',o'⟩:=m4 f 1 c (d+1) r' y.1 y.2 hy om;refine⟨pre++ .sign c::pre',by rw[e,hr,e'];simp,λt ht=>?_⟩;simp only[cN,a_]at ht;rcases ht with ht|rfl|ht
       ·exact o t ht
       ·rcases hc with rfl|rfl<;>rfl
       ·exact o' t ht
      ·cases h
     ·cases h;exact m4 f 2 0 d ts _ _ hx hm
    ·cases h;exact m4 f 2 0 d ts _ _ hx hm
   ·rw[if_neg k1]at h
    unfold u9 at h;split at h
    ·rename_i a r'
     cases h;exact⟨[.name a],U,by simp[fu]⟩
    ·rename_i c r'
     split at h
     ·split at h
      ·rename_i hc
       obtain⟨y,hy,h⟩:=eu.mp h;cases h;rw[jT]at hm;obtain⟨pre',e',o'⟩:=m4 f 2 0 (d+1) r' y.1 y.2 hy hm;refine⟨.sign c::pre',by rw[e'];simp,λt ht=>?_⟩;simp only[a_]at ht;rcases ht with rfl|ht
       ·subst hc;rfl
       ·exact o' t ht
      ·split at h
       ·obtain⟨y,hy,h⟩:=eu.mp h
        cases h;simp[multiplicative]at hm
       ·split at h
        ·obtain⟨y,hy,h⟩:=eu.mp h
         cases h;simp[multiplicative]at hm
        ·split at h
         ·rename_i hc
          obtain⟨y,hy,h⟩:=cC.mp h;unfold brk at h;split at h
          ·rename_i s hs
           cases h;obtain⟨pre',e',o'⟩:=m4 f 0 0 (d+1) r' y.1 y.2 hy hm;refine⟨.sign c::(pre'++[.sign 41]),by rw[e',hs];simp,λt ht=>?_⟩;simp only[a_,cN,xR,or_false]at ht;rcases ht with rfl|ht|rfl
           ·subst hc;rfl
           ·exact o' t ht
           ·rfl
          ·cases h
         ·cases h
     ·cases h
    ·cases h
theorem Q0{c:UInt8}{A B:Formula}(hc:fu (.sign c)=true)(h2:isTwo c=true)(hA:multiplicative A=true)(hB:multiplicative B=true):multiplicative (two c A B)=true:=by
 rcases tm hc with rfl|rfl|rfl|rfl|rfl
 ·exact absurd h2 (by decide)
 ·simp[two,multiplicative,hA,hB]
 ·simp[two,multiplicative,hA,hB]
 ·exact absurd h2 (by decide)
 ·exact absurd h2 (by decide)
theorem qW:∀(f k:Nat) (sg:UInt8) (d:Nat) (ts:List Token) (A:Formula) (r:List Token),level f k sg d ts=some (A,r)->(∀t∈ts,fu t=true)->multiplicative A=true
 |0,_,_,_,_,_,_,h,_=>by simp[level]at h
 |f+1,k,sg,d,ts,A,r,h,ok=>by
  rw[tj]at h;by_cases k0:k=0
  ·rw[if_pos k0]at h
   obtain⟨x,hx,h⟩:=cC.mp h;have hm:=qW f 1 0 d ts x.1 x.2 hx ok;have tq:=yh hx ok;unfold u7 at h;split at h
   ·rename_i r' hr
    rw[hr]at tq;split at h
    ·obtain⟨y,hy,h⟩:=eu.mp h
     cases h;simp only[multiplicative,bb,jT];exact⟨hm,qW f 0 0 (d+1) r' y.1 y.2 hy λt ht=>tq t (fe _ ht)⟩
    ·cases h
   ·cases h;exact hm
  ·rw[if_neg k0]at h
   by_cases k1:k=1
   ·rw[if_pos k1]at h
    obtain⟨x,hx,h⟩:=cC.mp h;have hm:=qW f 2 0 d ts x.1 x.2 hx ok;have tq:=yh hx ok;unfold tf at h;split at h
    ·rename_i c r' hr
     rw[hr]at tq;split at h
     ·rename_i hc
      split at h
      ·obtain⟨y,hy,h⟩:=eu.mp h
       cases h;exact Q0 (tq _ (gC ..)) hc.1 hm (qW f 1 c (d+1) r' y.1 y.2 hy λt ht=>tq t (fe _ ht))
      ·cases h
     ·cases h;exact hm
    ·cases h;exact hm
   ·rw[if_neg k1]at h
    unfold u9 at h;split at h
    ·cases h;rfl
    ·rename_i c r'
     have okr:∀t∈r',fu t=true:=λt ht=>ok t (fe _ ht);have oc:=tm (ok _ (gC ..));split at h
     ·split at h
      ·obtain⟨y,hy,h⟩:=eu.mp h
       cases h;rw[jT];exact qW f 2 0 (d+1) r' y.1 y.2 hy okr
      ·split at h
       ·rename_i hc;subst hc;exact absurd oc (by decide)
       ·split at h
        ·rename_i hc;subst hc;exact absurd oc (by decide)
        ·split at h
         ·obtain⟨y,hy,h⟩:=cC.mp h
          unfold brk at h;split at h
          ·cases h;exact qW f 0 0 (d+1) r' y.1 y.2 hy okr
          ·cases h
         ·cases h
     ·cases h
    ·cases h
def gX(t:Text):Option Formula:=if 2000<t.length then none else(toks t).bind λts=>run ⟨none,[]⟩ ts
theorem Q1(t:Text):gX t=(formulaOf t).filter multiplicative:=by
 unfold gX formulaOf BYTES;split
 ·rfl
 ·unfold toks
  cases tokens t with
  |none=>rfl
  |some ts=>
   simp only[cY];cases ha:ju ts with
   |true=>
    have ok:∀k∈ts,fu k=true:=iC.mp ha;simp only[Option.filter,ha,if_true,cY];rw[run_eq ts ok];cases hf:formulaIn ts with
    |none=>rfl
    |some A=>
     have:multiplicative A=true:=by
      unfold formulaIn at hf;split at hf
      ·rename_i B hl
       cases hf;exact qW _ _ _ _ _ _ _ hl ok
      ·cases hf
     simp[this]
   |false=>
    simp only[Option.filter,ha];cases hf:formulaIn ts with
    |none=>rfl
    |some A=>
     cases hm:multiplicative A with
     |false=>simp[hm]
     |true=>
      exfalso;unfold formulaIn at hf;split at hf
      ·rename_i B hl
       cases hf;obtain⟨pre,e,o⟩:=m4 _ _ _ _ _ _ _ hl hm;rw[iD]at e;subst e;have:=iC.mpr o;unfold ju at ha;rw[ha]at this;cases this
      ·cases hf
theorem HQ(b:UInt8):∀t:Text,cutAt b t≠ []
 |[]=>by simp[cutAt]
 |c::r=>by
  unfold cutAt;split
  ·simp
  ·split<;>simp
theorem vg(b c:UInt8):∀(t:Text) (ps:List Text) (cur:Text),cutAt b t=ps++[cur]->cutAt b (t++[c])=if c=b then(ps++[cur])++[[]]else ps++[cur++[c]]
 |[],ps,cur,h=>by
  have h':([[]]:List Text)=ps++[cur]:=h;cases ps with
  |nil=>
   have:cur=[]:=by simpa using h'.symm
   subst this;show cutAt b [c]=_;unfold cutAt;split<;>rfl
  |cons p ps=>have:=congrArg List.length h';simp at this
 |x::r,ps,cur,h=>by
  rw[lF];unfold cutAt at h⊢;by_cases hx:x=b
  ·rw[if_pos hx]at h⊢
   cases ps with
   |nil=>simp only[mS,s_]at h;exact absurd h.2 (HQ b r)
   |cons p ps=>simp only[lF,s_]at h;obtain⟨rfl,h⟩:=h;rw[vg b c r ps cur h];split<;>simp
  ·rw[if_neg hx]at h⊢
   cases hc:cutAt b r with
   |nil=>exact absurd hc (HQ b r)
   |cons w ws=>
    rw[hc]at h;dsimp only at h;cases ps with
    |nil=>
     simp only[mS,s_]at h;obtain⟨rfl,rfl⟩:=h;have e:=vg b c r [] w hc;rw[e];by_cases gY:c=b
     ·rw[if_pos gY,if_pos gY];rfl
     ·rw[if_neg gY,if_neg gY];rfl
    |cons p ps=>
     simp only[lF,s_]at h;obtain⟨rfl,rfl⟩:=h;have e:=vg b c r (w::ps) cur (by rw[hc];rfl);rw[e];by_cases gY:c=b
     ·rw[if_pos gY,if_pos gY];rfl
     ·rw[if_neg gY,if_neg gY];rfl
def df(sep:Text):List Text->Text
 |[]=>[]
 |[a]=>a
 |a::b::r=>a++sep++df sep (b::r)
theorem HR(sep:Text):∀(l:List Text) (x:Text),df sep (l++[x])=if l=[]then x else df sep l++sep++x
 |[],x=>rfl
 |[a],x=>by simp[df]
 |a::b::r,x=>by have ih:=HR sep (b::r) x;rw[if_neg (by simp)]at ih⊢;show a++sep++df sep ((b::r)++[x])=_;rw[ih];simp[df]
theorem yl:∀l:List Formula,sequentForm l=df [44,32] (l.map form)
 |[]|[A]=>rfl
 |A::B::r=>by have ih:=yl (B::r);show form A++44::32::sequentForm (B::r)=_;rw[ih];simp[df]
theorem ym:∀l:List Text,spaced l=df [32] l
 |[]|[a]=>rfl
 |a::b::r=>by have ih:=ym (b::r);show a++32::spaced (b::r)=_;rw[ih];simp[df]
theorem BK{p:UInt8->Bool}:∀{t:Text},(∀x∈t,p x=true)->t.dropWhile p=[]
 |[],_=>rfl
 |c::r,h=>by rw[uR,if_pos (h c (by simp))];exact BK λx hx=>h x (by simp[hx])
theorem HS{p:UInt8->Bool}:∀{t:Text} {c:UInt8} {r:Text},t.dropWhile p=c::r->p c=false
 |[],c,r,h=>by simp at h
 |d::t,c,r,h=>by
  rw[uR]at h;split at h
  ·exact HS h
  ·rename_i hd
   cases h;simpa using hd
theorem pJ{p:UInt8->Bool}:∀{t:Text},t.dropWhile p=[]->∀x∈t,p x=true
 |[],_=>by simp
 |d::t,h=>by
  rw[uR]at h;split at h
  ·rename_i hd
   intro x hx;rcases a_.mp hx with rfl|hx
   ·exact hd
   ·exact pJ h x hx
  ·cases h
def blank(b:UInt8):Bool:=b==32
theorem BL(t:Text):trimmed t=((t.dropWhile blank).reverse.dropWhile blank).reverse:=rfl
theorem dropWhile_at{p:UInt8->Bool}:∀(t:Text) (i:Nat),(∀x∈t.take i,p x=true)->(∀x,t[i]? =some x->p x=false)->i<=t.length->t.dropWhile p=t.drop i
 |[],i,_,_,_=>by simp
 |c::r,0,_,h,_=>by have:=h c U;rw[uR,if_neg (by rw[this];simp)];rfl
 |c::r,i+1,h,h2,hl=>by have hc:=h c (by simp);rw[uR,if_pos hc];exact dropWhile_at r i (λx hx=>h x (by simp[hx])) (λx hx=>h2 x hx) (by simpa using hl)
theorem Q2(t:Text)(i j:Nat)(iH:i<=j)(hj:j<=t.length)(h1:∀x∈t.take i,x=32)(h2:i<j->∀x,t[i]? =some x->x≠32)(h3:∀x∈t.drop j,x=32)(h4:i<j->∀x,t[j-1]? =some x->x≠32):
  trimmed t=(t.drop i).take (j-i):=by
 rw[BL];by_cases e:i<j
 ·rw[dropWhile_at t i (λx hx=>by rw[h1 x hx];rfl) (λx hx=>by have:=h2 e x hx;simpa [blank]using this) (by omega)]
  have l:(t.drop i).reverse.length=t.length-i:=by simp
  rw[dropWhile_at (t.drop i).reverse (t.length-j) ?_ ?_ (by omega)]
  ·rw[<-List.reverse_reverse (List.take (j-i) (List.drop i t))]
   congr 1;rw[List.reverse_take];congr 1;rw[iE];omega
  ·intro x hx
   have:x∈t.drop j:=by
    rw[List.take_reverse,Bj,iE]at hx;have e2:i+(t.length-i-(t.length-j))=j:=by omega
    rw[sP,e2]at hx;exact hx
   rw[h3 x this];rfl
  ·intro x hx
   have aU:t.length-j<t.length-i:=by omega
   rw[xS (by simpa using aU),iE,nX]at hx;have e2:i+(t.length-i-1-(t.length-j))=j-1:=by omega
   rw[e2]at hx;have:=h4 e x hx;simpa [blank]using this
 ·have e':i=j:=by omega
  subst e';have fw:∀x∈t,x=32:=by
   intro x hx;rw[<-uS i t,cN]at hx;rcases hx with hx|hx
   ·exact h1 x hx
   ·exact h3 x hx
  have:t.dropWhile blank=[]:=BK λx hx=>by rw[fw x hx];rfl
  rw[this];simp
theorem HU(t:Text):trimmed t=[]↔t.all (λb=>b==32)=true:=by
 rw[BL];constructor
 ·intro h
  have h1:(t.dropWhile blank).reverse.dropWhile blank=[]:=by simpa using h
  have h2:∀x∈t.dropWhile blank,blank x=true:=λx hx=>pJ h1 x (by simpa using hx);have h3:t.dropWhile blank=[]:=by
   cases hd:t.dropWhile blank with
   |nil=>rfl
   |cons c r=>have hc:=HS hd;have:=h2 c (by rw[hd];simp);rw[hc]at this;cases this
  exact iC.mpr (pJ h3)
 ·intro h
  have:t.dropWhile blank=[]:=BK (iC.mp h);rw[this];rfl
def valOf(t:Text):Nat:=t.foldl (λn b=>10*n+(b.toNat-48)) 0
def oo(t:Text):Bool:=t.isEmpty||(decide (1<t.length)&&t.head? ==some 48)
theorem BM(t:Text):numberOf t=if oo t=true then none else if t.all isDigit=true then some (valOf t)else none:=by unfold numberOf oo valOf;cases t.isEmpty<;>cases t.all isDigit<;>cases (decide (1<t.length)&&t.head? ==some 48)<;>rfl
def d8(t:Text):Int:=match numberOf t with
 |some n=>n
 |none=> -1
theorem Q3(t:Text)(b:UInt8):valOf (t++[b])=10*valOf t+(b.toNat-48):=by unfold valOf;rw[uT];rfl
theorem Q4(t:Text):pairOf t=match cutAt 45 t with
  |[a,b]=>if d8 a<0\/d8 b<=d8 a then none else some ((d8 a).toNat,(d8 b).toNat)
  |_=>none:=by
 unfold pairOf;split
 ·rename_i a b h
  rw[h];dsimp only;unfold d8;cases numberOf a with
  |none=>simp
  |some i=>
   cases numberOf b with
   |none=>simp only[cY,Option.bind_none];rw[if_pos (by omega)]
   |some j=>
    simp only[cY];by_cases iH:i<j
    ·rw[if_pos iH,if_neg (by omega)];simp
    ·rw[if_neg iH,if_pos (by omega)]
 ·rename_i h
  split
  ·rename_i a b e;exact absurd e (h a b)
  ·rfl
def rise:Int->List (Nat×Nat)->Bool
 |_,[]=>true
 |k,a::r=>decide (k<(a.1:Int))&&rise a.1 r
theorem HV:∀(a:Nat×Nat) (l:List (Nat×Nat)),risingFirst (a::l)=rise a.1 l
 |a,[]=>rfl
 |a,b::r=>by show(decide (a.1<b.1)&&risingFirst (b::r))=(decide ((a.1:Int)<(b.1:Int))&&rise b.1 r);rw[HV b r];congr 1;simp
theorem Q5(l:List (Nat×Nat)):risingFirst l=rise (-1) l:=by
 cases l with
 |nil=>rfl
 |cons a r=>rw[HV];show _=(decide ((-1:Int)<(a.1:Int))&&rise a.1 r);rw[decide_eq_true (by omega)];rfl
def jv:Int->List Text->Option (List (Nat×Nat))
 |_,[]=>some []
 |k,t::r=>(pairOf t).bind λx=>if(x.1:Int)<=k then none else(jv x.1 r).map λl=>x::l
theorem HW:∀(l:List Text) (k:Int),jv k l=(allOf (l.map pairOf)).bind λz=>if rise k z=true then some z else none
 |[],k=>rfl
 |t::r,k=>by
  show(pairOf t).bind _=((pairOf t).bind λa=>(allOf (r.map pairOf)).map λl=>a::l).bind _;cases pairOf t with
  |none=>rfl
  |some x=>
   simp only[cY];rw[HW r x.1];cases allOf (r.map pairOf)with
   |none=>simp
   |some l=>
    simp only[cY,lD];by_cases h:(x.1:Int)<=k
    ·have e:rise k (x::l)=false:=by
      show(decide (k<(x.1:Int))&&rise x.1 l)=false;rw[decide_eq_false (by omega)];rfl
     rw[if_pos h,e];rfl
    ·have e:rise k (x::l)=rise x.1 l:=by
      show(decide (k<(x.1:Int))&&rise x.1 l)=_;rw[decide_eq_true (by omega)];rfl
     rw[if_neg h,e];cases rise x.1 l<;>rfl
theorem HX(t:Text):pairsOf t=if(trimmed t).isEmpty=true then some []else jv (-1) (cutAt 32 (trimmed t)):=by
 unfold pairsOf;split
 ·rfl
 ·rw[HW]
  congr 1;funext l;rw[Q5]
theorem HY:∀(l:List Text) (k:Int) (z:List (Nat×Nat)),jv k l=some z->∀x∈z,x.1<x.2
 |[],k,z,h=>by cases h;simp
 |t::r,k,z,h=>by
  unfold jv at h;obtain⟨x,hx,h⟩:=cC.mp h;split at h
  ·cases h
  ·obtain⟨l,hl,h⟩:=eu.mp h
   subst h;have ih:=HY r x.1 l hl;intro y hy;rcases a_.mp hy with rfl|hy
   ·unfold pairOf at hx
    split at hx
    ·obtain⟨i,_,hx⟩:=cC.mp hx
     obtain⟨j,_,hx⟩:=cC.mp hx;split at hx
     ·cases hx;assumption
     ·cases hx
    ·cases hx
   ·exact ih y hy
def jw(l:List Formula):Bool:=l.all multiplicative
theorem HZ:∀(l:List Text),(allOf (l.map formulaOf)).filter jw=allOf (l.map gX)
 |[]=>rfl
 |t::r=>by
  show((formulaOf t).bind λa=>(allOf (r.map formulaOf)).map λl=>a::l).filter jw=(gX t).bind λa=>(allOf (r.map gX)).map λl=>a::l;rw[<-HZ r,Q1];cases formulaOf t with
  |none=>rfl
  |some A=>
   simp only[cY];cases allOf (r.map formulaOf)with
   |none=>
    cases hA:multiplicative A<;>simp[Option.filter,hA]
   |some l=>have e:jw (A::l)=(multiplicative A&&jw l):=rfl;cases hA:multiplicative A<;>cases hl:jw l<;>simp[Option.filter,e,hA,hl]
def kP(t:Text):Option Sequent:=
 if(trimmed t).isEmpty=true then some []
 else(allOf ((cutAt 44 t).map gX)).filter λl=>decide (l.length<=20)
theorem BN{A:Type}:∀(l:List (Option A)) (z:List A),allOf l=some z->z.length=l.length
 |[],z,h=>by cases h;rfl
 |x::r,z,h=>by unfold allOf at h;obtain⟨a,_,h⟩:=cC.mp h;obtain⟨l,hl,h⟩:=eu.mp h;subst h;simp[BN r l hl]
theorem H_(t:Text):kP t=(sequentOf t).filter jw:=by
 unfold kP sequentOf;by_cases h:t.all (λb=>b==32)=true
 ·rw[if_pos h,if_pos (by rw[(HU t).mpr h];rfl)];rfl
 ·rw[if_neg h,if_neg (by
   intro e;exact h ((HU t).mp (by simpa using e)))]
  rw[<-HZ];by_cases hl:20<(cutAt 44 t).length
  ·rw[if_pos hl]
   cases ha:allOf ((cutAt 44 t).map formulaOf)with
   |none=>rfl
   |some z=>have:=BN _ _ ha;rw[aI]at this;cases hm:jw z<;>simp[Option.filter,hm];omega
  ·rw[if_neg hl]
   cases ha:allOf ((cutAt 44 t).map formulaOf)with
   |none=>rfl
   |some z=>have:=BN _ _ ha;rw[aI]at this;cases hm:jw z<;>simp[Option.filter,hm];omega
theorem Ia(t:Text):partsOf t=match cutAt 59 t with
  |[a,b,c]=>(kP a).bind λx=>(kP b).bind λy=>(pairsOf c).map λz=>(x,y,z)
  |_=>none:=by
 unfold partsOf;split
 ·rename_i a b c h
  rw[h];dsimp only;rw[H_,H_];cases sequentOf a with
  |none=>rfl
  |some x=>
   simp only[cY];cases sequentOf b with
   |none=>
    cases hx:jw x<;>simp[Option.filter,hx]
   |some y=>
    have e:(x++y).all multiplicative=(jw x&&jw y):=by simp[jw]
    simp only[cY,e];cases hx:jw x<;>cases hy:jw y<;>simp[Option.filter,hx,hy]
 ·rename_i h
  split
  ·rename_i a b c e;exact absurd e (h a b c)
  ·rfl
theorem tw:∀{l m:List Nat},l.Nodup->(∀x∈l,x∈m)->l.length<=m.length
 |[],_,_,_=>bj _
 |a::l,m,h,s=>by
  obtain⟨h1,h2⟩:=fq.mp h;have ha:a∈m:=s a (by simp);have:=tw (l:=l) (m:=m.erase a) h2 λx hx=>by have b8:x≠a:=λe=>h1 (e▸hx);exact(List.mem_erase_of_ne b8).mpr (s x (by simp[hx]))
  rw[List.length_erase_of_mem ha]at this;have:0<m.length:=List.length_pos_of_mem ha;simp only[aX];omega
theorem BO{l:List Nat}{n:Nat}(h:l.Nodup)(hl:∀x∈l,x<n)(hn:l.length=n):∀i,i<n->i∈l:=by
 intro i hi;apply Classical.byContradiction;intro hc;have:(i::l).length<=(List.range n).length:=tw (fq.mpr ⟨hc,h⟩) λx hx=>by
  rcases a_.mp hx with rfl|hx
  ·exact jq.mpr hi
  ·exact jq.mpr (hl x hx)
 simp at this;omega
theorem Q6{l:List Nat}{n:Nat}(h:l.Nodup)(hl:∀x∈l,x<n)(ha:∀i,i<n->i∈l):l.length=n:=by have h1:l.length<=(List.range n).length:=tw h λx hx=>jq.mpr (hl x hx);have h2:(List.range n).length<=l.length:=tw List.nodup_range λx hx=>ha x (jq.mp hx);simp at h1 h2;omega
theorem Ib:∀(n:Nat) (l:List Nat),l.length<=n->l.eraseDups.length<=l.length
 |0,l,h=>by
  have:l=[]:=by cases l with|nil=>rfl|cons=>simp at h
  subst this;simp
 |n+1,[],h=>by simp
 |n+1,a::l,h=>by rw[uU];have hf:(l.filter λb=> !b==a).length<=l.length:=sQ _ _;have:=Ib n (l.filter λb=> !b==a) (by simp only[aX]at h;omega);simp only[aX];omega
theorem yn:∀(n:Nat) (l:List Nat),l.length<=n->(l.eraseDups.length=l.length↔l.Nodup)
 |0,l,h=>by
  have:l=[]:=by cases l with|nil=>rfl|cons=>simp at h
  subst this;simp
 |n+1,[],h=>by simp
 |n+1,a::l,h=>by
  rw[uU,fq];have f7:l.length<=n:=by simp only[aX]at h;omega
  have hf:(l.filter λb=> !b==a).length<=l.length:=sQ _ _;have hle:=Ib n (l.filter λb=> !b==a) (by omega);simp only[aX];constructor
  ·intro e
   have e1:(l.filter λb=> !b==a).length=l.length:=by omega
   have e2:(l.filter λb=> !b==a)=l:=xT.mpr ((List.length_filter_eq_length_iff).mp e1);rw[e2]at e;refine⟨λha=>?_,(yn n l f7).mp (by omega)⟩;have:=(xT.mp e2) a ha;simp at this
  ·rintro⟨h1,h2⟩
   have e2:(l.filter λb=> !b==a)=l:=xT.mpr λx hx=>by have:x≠a:=λe=>h1 (e▸hx);simpa using this
   rw[e2,(yn n l f7).mpr h2]
def numsOf(l:List (Nat×Nat)):List Nat:=l.flatMap λx=>[x.1,x.2]
def fits(ls:List (Bool×Name))(x:Nat×Nat):Bool:=match ls[x.1]?,ls[x.2]? with
 |some a,some b=>fitting a b
 |_,_=>false
def jU(ls:List (Bool×Name)):List Nat->List (Nat×Nat)->Option (List Nat)
 |met,[]=>some met
 |met,x::r=>if ls.length<=x.2\/x.1∈met\/x.2∈met then none else if fits ls x=true then jU ls (met++[x.1,x.2]) r else none
def paired(ls:List (Bool×Name))(l:List (Nat×Nat)):Bool:=match jU ls [] l with
 |some met=>met.length==ls.length
 |none=>false
theorem yo(ls:List (Bool×Name)):∀(l:List (Nat×Nat)) (met out:List Nat),(∀x∈l,x.1<x.2)->met.Nodup->
  (jU ls met l=some out↔out=met++numsOf l/\ out.Nodup/\ (∀i∈numsOf l,i<ls.length)/\ ∀x∈l,fits ls x=true)
 |[],met,out,_,hm=>by
  simp only[jU,numsOf,Bk,iD,uV];constructor
  ·rintro rfl;exact⟨U,hm,by simp,by simp⟩
  ·rintro⟨rfl,_⟩;rfl
 |x::r,met,out,aU,hm=>by
  have hx:=aU x (by simp);have hn:numsOf (x::r)=x.1::x.2::numsOf r:=rfl;unfold jU;by_cases h1:ls.length<=x.2\/x.1∈met\/x.2∈met
  ·rw[if_pos h1]
   constructor
   ·intro e;cases e
   ·rintro⟨rfl,nd,lt,_⟩
    exfalso;rw[hn]at nd lt;rcases h1 with h1|h1|h1
    ·have:=lt x.2 (by simp);omega
    ·exact(qJ.mp nd).2.2 x.1 h1 x.1 (by simp) U
    ·exact(qJ.mp nd).2.2 x.2 h1 x.2 (by simp) U
  ·rw[if_neg h1]
   have h1a:x.2<ls.length:=by apply Classical.byContradiction;intro c;exact h1 (.inl (by omega))
   have h1b:x.1∉met:=λc=>h1 (.inr (.inl c));have h1c:x.2∉met:=λc=>h1 (.inr (.inr c));by_cases h2:fits ls x=true
   ·rw[if_pos h2]
    have nd2:(met++[x.1,x.2]).Nodup:=by
     rw[qJ];refine⟨hm,by simp;omega,?_⟩;intro a ha b hb e;subst e;simp only[a_,xR,or_false]at hb;rcases hb with rfl|rfl
     ·exact h1b ha
     ·exact h1c ha
    rw[yo ls r (met++[x.1,x.2]) out (λy hy=>aU y (by simp[hy])) nd2,hn];constructor
    ·rintro⟨rfl,nd,lt,ff⟩
     refine⟨by simp,nd,?_,?_⟩
     ·intro i hi
      simp only[a_]at hi;rcases hi with rfl|rfl|hi
      ·omega
      ·exact h1a
      ·exact lt i hi
     ·intro y hy
      rcases a_.mp hy with rfl|hy
      ·exact h2
      ·exact ff y hy
    ·rintro⟨rfl,nd,lt,ff⟩
     exact⟨by simp,nd,λi hi=>lt i (by simp[hi]),λy hy=>ff y (by simp[hy])⟩
   ·rw[if_neg h2]
    constructor
    ·intro e;cases e
    ·rintro⟨_,_,_,ff⟩;exact absurd (ff x (by simp)) h2
theorem Ic{l:List (Nat×Nat)}(nd:(numsOf l).Nodup){x:Nat×Nat}(hx:x∈l){i:Nat}(hi:i=x.1\/i=x.2):l.find? (λy=>y.1==i||y.2==i)=some x:=by
 induction l with
 |nil=>simp at hx
 |cons y r ih=>
  have hn:numsOf (y::r)=y.1::y.2::numsOf r:=rfl;rw[hn]at nd;obtain⟨h1,nd⟩:=fq.mp nd;obtain⟨h2,nd⟩:=fq.mp nd;have mem:∀z∈r,z.1∈numsOf r/\ z.2∈numsOf r:=λz hz=>by
   constructor
   ·exact gn.mpr ⟨z,hz,by simp⟩
   ·exact gn.mpr ⟨z,hz,by simp⟩
  rcases a_.mp hx with rfl|hx
  ·rw[Bl]
   rcases hi with rfl|rfl<;>simp
  ·rw[List.find?_cons_of_neg]
   ·exact ih nd hx
   ·have m:=mem x hx
    intro c;simp only[qI,beq_iff_eq]at c;rcases c with c|c
    ·rcases hi with rfl|rfl
     ·exact h1 (by rw[c];simp[m.1])
     ·exact h1 (by rw[c];simp[m.2])
    ·rcases hi with rfl|rfl
     ·exact h2 (by rw[c];exact m.1)
     ·exact h2 (by rw[c];exact m.2)
theorem find_none{l:List (Nat×Nat)}{i:Nat}(h:i∉numsOf l):l.find? (λy=>y.1==i||y.2==i)=none:=by
 rw[List.find?_eq_none];intro y hy c;simp only[qI,beq_iff_eq]at c;apply h;rcases c with rfl|rfl
 ·exact gn.mpr ⟨y,hy,by simp⟩
 ·exact gn.mpr ⟨y,hy,by simp⟩
theorem BP{n:Nat}{l:List (Nat×Nat)}{i:Nat}(hi:i<n):(partnersOf n l)[i]? =some (match l.find? λx=>x.1==i||x.2==i with
  |some x=>if x.1=i then x.2 else x.1
  |none=>n):=by
 unfold partnersOf;rw[ez,qK hi];rfl
theorem tD(n:Nat)(l:List (Nat×Nat)):(partnersOf n l).length=n:=by unfold partnersOf;simp
theorem vh{n:Nat}{l:List (Nat×Nat)}(nd:(numsOf l).Nodup){x:Nat×Nat}(hx:x∈l)(aU:x.1<x.2)(h2:x.2<n):
  (partnersOf n l)[x.1]? =some x.2/\ (partnersOf n l)[x.2]? =some x.1:=by
 constructor
 ·rw[BP (by omega),Ic nd hx (.inl U)];simp
 ·rw[BP h2,Ic nd hx (.inr U)]
  dsimp only;rw[if_neg (by omega)]
theorem BQ{l:List (Nat×Nat)}{i:Nat}(h:i∈numsOf l):∃x∈l,i=x.1\/i=x.2:=by obtain⟨x,hx,hi⟩:=gn.mp h;exact⟨x,hx,by simpa using hi⟩
theorem Q7(a b:Bool×Name):fitting a b=fitting b a:=by
 obtain⟨p,a⟩:=a;obtain⟨q,b⟩:=b;unfold fitting;show(a==b&&p !=q)=(b==a&&q !=p);have h1:(a==b)=(b==a):=by
  by_cases e:a=b
  ·subst e;rfl
  ·rw[beq_eq_false_iff_ne.mpr e,beq_eq_false_iff_ne.mpr (λz=>e z.symm)]
 rw[h1];cases p<;>cases q<;>rfl
theorem Ie(ls:List (Bool×Name))(l:List (Nat×Nat))(aU:∀x∈l,x.1<x.2):paired ls l=(oncePairs ls.length l&&linked ls (partnersOf ls.length l)):=by
 have key:paired ls l=true↔(oncePairs ls.length l&&linked ls (partnersOf ls.length l))=true:=by
  rw[bb];constructor
  ·intro h
   unfold paired at h;cases hp:jU ls [] l with
   |none=>rw[hp]at h;cases h
   |some met=>
    rw[hp]at h;obtain⟨rfl,nd,lt,ff⟩:=(yo ls l [] met aU nY).mp hp;rw[mS]at nd h;have hlen:(numsOf l).length=ls.length:=by simpa using h
    have all:=BO nd lt hlen;constructor
    ·unfold oncePairs
     show((numsOf l).all (λi=>decide (i<ls.length))&&(numsOf l).eraseDups.length==(numsOf l).length)=true;rw[bb];refine⟨iC.mpr λi hi=>decide_eq_true (lt i hi),?_⟩;rw[(yn _ _ (aM _)).mpr nd];simp
    ·unfold linked
     rw[bb];refine⟨by rw[tD];simp,iC.mpr λi hi=>?_⟩;rw[jq,tD]at hi;obtain⟨x,hx,BR⟩:=BQ (all i hi);have hl:=aU x hx;have h2:x.2<ls.length:=lt x.2 (gn.mpr ⟨x,hx,by simp⟩);obtain⟨p1,p2⟩:=vh (n:=ls.length) nd hx hl h2;have hf:=ff x hx;unfold fits at hf;rw[br (show x.1<ls.length by omega),br h2]at hf;rcases BR with rfl|rfl
     ·rw[p1]
      dsimp only;rw[p2,br (show x.1<ls.length by omega),br h2];dsimp only at hf⊢;rw[hf];simp
     ·rw[p2]
      dsimp only;rw[p1,br (show x.1<ls.length by omega),br h2];dsimp only at hf⊢;rw[Q7,hf];simp
  ·rintro⟨h1,h2⟩
   unfold oncePairs at h1;have h1:((numsOf l).all (λi=>decide (i<ls.length))&&(numsOf l).eraseDups.length==(numsOf l).length)=true:=h1;rw[bb]at h1;have lt:∀i∈numsOf l,i<ls.length:=λi hi=>of_decide_eq_true (iC.mp h1.1 i hi);have nd:(numsOf l).Nodup:=(yn _ _ (aM _)).mp (by simpa using h1.2);unfold linked at h2;rw[bb]at h2;have fw:=iC.mp h2.2;have cov:∀i,i<ls.length->i∈numsOf l:=by intro i hi;apply Classical.byContradiction;intro c;have:=fw i (by rw[jq,tD];exact hi);rw[BP hi,find_none c]at this;dsimp only at this;rw[jQ (by rw[tD];exact aM _)]at this;simp at this
   have ff:∀x∈l,fits ls x=true:=by intro x hx;have hl:=aU x hx;have pK:x.2<ls.length:=lt x.2 (gn.mpr ⟨x,hx,by simp⟩);obtain⟨p1,p2⟩:=vh (n:=ls.length) nd hx hl pK;have:=fw x.1 (by rw[jq,tD];omega);rw[p1]at this;dsimp only at this;rw[bb]at this;exact this.2
   have hp:=(yo ls l [] (numsOf l) aU nY).mpr ⟨by simp,nd,lt,ff⟩;unfold paired;rw[hp];simpa using Q6 nd lt cov
 cases h:paired ls l<;>cases h':(oncePairs ls.length l&&linked ls (partnersOf ls.length l))
 ·rfl
 ·rw[key.mpr h']at h;cases h
 ·rw[key.mp h]at h';cases h'
 ·rfl
open Vanetg
def eO(fs:List Formula):Prop:=∀A∈fs,multiplicative A=true
theorem dq:∀(A:Formula) (n:Nat),multiplicative A=true->(pointsOf n A).length=nodes A
 | .atom _ _,n,_=>rfl
 | .tensor A B,n,h| .par A B,n,h=>by simp only[multiplicative,bb]at h;simp only[pointsOf,nodes,aX,bL,dq A _ h.1,dq B _ h.2];omega
 | .wth A B,n,h| .plus A B,n,h| .ofc A,n,h| .whn A,n,h=>by simp[multiplicative]at h
theorem fz(A:Formula):0<nodes A:=by cases A<;>simp[nodes]<;>omega
def bf:List Formula->Nat
 |[]=>0
 |A::r=>nodes A+bf r
theorem jV:∀(fs:List Formula) (n:Nat),eO fs->(pointsFrom n fs).length=bf fs
 |[],n,_=>rfl
 |A::r,n,h=>by rw[pointsFrom,bL,dq A n (h A (by simp)),jV r _ λB hB=>h B (by simp[hB])];rfl
def iI(x:Nat×Point):List (Nat×Stand):=match x.2 with
 | .tensor l r=>[(l, .tensor x.1 r false),(r, .tensor x.1 l true)]
 | .par l r=>[(l, .par x.1 false),(r, .par x.1 true)]
 | .leaf=>[]
def cF(k:Nat)(ps:List Point):List (Nat×Stand):=((List.range' k ps.length).zip ps).flatMap iI
theorem tE(ps:List Point):standsIn ps=cF 0 ps:=by unfold standsIn cF;rw[oh];rfl
theorem tF(k:Nat)(ps qs:List Point):cF k (ps++qs)=cF k ps++cF (k+ps.length) qs:=by unfold cF;rw[bL,<-List.range'_append_1,List.zip_append (by simp),px]
theorem yp(k:Nat)(p:Point)(qs:List Point):cF k (p::qs)=iI (k,p)++cF (k+1) qs:=by unfold cF;rw[aX,qL];simp
def keys(l:List (Nat×Stand)):List Nat:=l.map (·.1)
theorem lJ(a b:List (Nat×Stand)):keys (a++b)=keys a++keys b:=gD
theorem Ig{l r:Nat}{a b:List Nat}(hlr:l<r)(ha:a.Nodup)(hb:b.Nodup)(ra:∀x∈a,l<x/\ x<r)(rb:∀x∈b,r<x):(l::r::(a++b)).Nodup:=by
 rw[fq,fq,qJ];refine⟨?_,?_,ha,hb,?_⟩
 ·simp only[a_,cN]
  rintro(h|h|h)
  ·omega
  ·have:=ra _ h;omega
  ·have:=rb _ h;omega
 ·simp only[cN]
  rintro(h|h)
  ·have:=ra _ h;omega
  ·have:=rb _ h;omega
 ·intro x hx y hy e
  have:=ra x hx;have:=rb y hy;omega
theorem keysOf:∀(A:Formula) (n:Nat),multiplicative A=true->(keys (cF n (pointsOf n A))).Nodup/\ ∀x∈keys (cF n (pointsOf n A)),n<x/\ x<n+nodes A
 | .atom _ _,n,_=>⟨nY,by intro x hx;simp[pointsOf,cF,iI,keys]at hx⟩
 | .tensor A B,n,h=>by
  simp only[multiplicative,bb]at h;obtain⟨a1,a2⟩:=keysOf A (n+1) h.1;obtain⟨b1,b2⟩:=keysOf B (n+1+nodes A) h.2;have pA:=fz A;have pB:=fz B;have e:keys (cF n (pointsOf n (.tensor A B)))=(n+1)::(n+1+nodes A)::(keys (cF (n+1) (pointsOf (n+1) A))++keys (cF (n+1+nodes A) (pointsOf (n+1+nodes A) B))):=by rw[pointsOf,yp,tF,dq A _ h.1,lJ,lJ];rfl
  rw[e];refine⟨Ig (by omega) a1 b1 (λx hx=>by have:=a2 x hx;omega) (λx hx=>(b2 x hx).1),λx hx=>?_⟩;simp only[a_,cN]at hx;simp only[nodes];rcases hx with rfl|rfl|hx|hx
  ·omega
  ·omega
  ·have:=a2 x hx;omega
  ·have:=b2 x hx;omega
 | .par A B,n,h=>by
  simp only[multiplicative,bb]at h;obtain⟨a1,a2⟩:=keysOf A (n+1) h.1;obtain⟨b1,b2⟩:=keysOf B (n+1+nodes A) h.2;have pA:=fz A;have pB:=fz B;have e:keys (cF n (pointsOf n (.par A B)))=(n+1)::(n+1+nodes A)::(keys (cF (n+1) (pointsOf (n+1) A))++keys (cF (n+1+nodes A) (pointsOf (n+1+nodes A) B))):=by rw[pointsOf,yp,tF,dq A _ h.1,lJ,lJ];rfl
  rw[e];refine⟨Ig (by omega) a1 b1 (λx hx=>by have:=a2 x hx;omega) (λx hx=>(b2 x hx).1),λx hx=>?_⟩;simp only[a_,cN]at hx;simp only[nodes];rcases hx with rfl|rfl|hx|hx
  ·omega
  ·omega
  ·have:=a2 x hx;omega
  ·have:=b2 x hx;omega
 | .wth A B,n,h| .plus A B,n,h| .ofc A,n,h| .whn A,n,h=>by simp[multiplicative]at h
theorem vi:∀(fs:List Formula) (n:Nat),∀x∈rootsFrom n fs,n<=x
 |[],n,x,h=>by simp[rootsFrom]at h
 |A::r,n,x,h=>by
  simp only[rootsFrom,a_]at h;rcases h with rfl|h
  ·omega
  ·have:=vi r _ x h;omega
theorem m7:∀(fs:List Formula) (n:Nat),∀x∈rootsFrom n fs,x<n+bf fs
 |[],n,x,h=>by simp[rootsFrom]at h
 |A::r,n,x,h=>by
  simp only[rootsFrom,a_]at h;have:=fz A;simp only[bf];rcases h with rfl|h
  ·omega
  ·have:=m7 r _ x h;omega
theorem yq:∀(fs:List Formula) (n:Nat),(rootsFrom n fs).Nodup
 |[],n=>nY
 |A::r,n=>by have:=fz A;rw[rootsFrom,fq];exact⟨λh=>by have:=vi r _ _ h;omega,yq r _⟩
theorem BS:∀(fs:List Formula) (n:Nat),eO fs->(keys (cF n (pointsFrom n fs))).Nodup/\ (∀x∈keys (cF n (pointsFrom n fs)),n<x/\ x<n+bf fs)/\ ∀x∈rootsFrom n fs,x∉keys (cF n (pointsFrom n fs))
 |[],n,_=>⟨nY,by intro x hx;simp[pointsFrom,cF,keys]at hx,by intro x hx;simp[rootsFrom]at hx⟩
 |A::r,n,h=>by
  have hA:=h A (by simp);have hr:eO r:=λB hB=>h B (by simp[hB]);obtain⟨a1,a2⟩:=keysOf A n hA;obtain⟨b1,b2,b3⟩:=BS r (n+nodes A) hr;have e:keys (cF n (pointsFrom n (A::r)))=keys (cF n (pointsOf n A))++keys (cF (n+nodes A) (pointsFrom (n+nodes A) r)):=by rw[pointsFrom,tF,dq A n hA,lJ]
  rw[e];refine⟨?_,?_,?_⟩
  ·rw[qJ]
   refine⟨a1,b1,λx hx y hy z=>?_⟩;have:=a2 x hx;have:=b2 y hy;omega
  ·intro x hx
   simp only[bf];rcases cN.mp hx with hx|hx
   ·have:=a2 x hx;omega
   ·have:=b2 x hx;omega
  ·intro x hx hk
   simp only[rootsFrom,a_]at hx;rcases cN.mp hk with hk|hk
   ·have k1:=a2 x hk
    rcases hx with rfl|hx
    ·omega
    ·have:=vi r _ x hx;omega
   ·have k1:=b2 x hk
    rcases hx with rfl|hx
    ·omega
    ·exact b3 x hx hk
theorem kids:∀(A:Formula) (n p:Nat) (l r:Nat),multiplicative A=true->((pointsOf n A)[p]? =some (.tensor l r)\/(pointsOf n A)[p]? =some (.par l r))->l=n+p+1/\ l<r/\ r<n+nodes A
 | .atom _ _,n,p,l,r,_,h=>by
  cases p<;>simp[pointsOf]at h
 | .tensor A B,n,p,l,r,hm,h=>by
  simp only[multiplicative,bb]at hm;have pA:=fz A;have pB:=fz B;simp only[nodes];cases p with
  |zero=>simp only[pointsOf,xU,uV,Point.tensor.injEq,reduceCtorEq,or_false]at h;omega
  |succ p=>
   simp only[pointsOf,fZ]at h;by_cases hp:p<nodes A
   ·rw[dQ (by rw[dq A _ hm.1];exact hp)]at h
    have:=kids A (n+1) p l r hm.1 h;omega
   ·rw[eM (by rw[dq A _ hm.1];omega),dq A _ hm.1]at h
    have:=kids B (n+1+nodes A) (p-nodes A) l r hm.2 h;omega
 | .par A B,n,p,l,r,hm,h=>by
  simp only[multiplicative,bb]at hm;have pA:=fz A;have pB:=fz B;simp only[nodes];cases p with
  |zero=>simp only[pointsOf,xU,uV,Point.par.injEq,reduceCtorEq,false_or]at h;omega
  |succ p=>
   simp only[pointsOf,fZ]at h;by_cases hp:p<nodes A
   ·rw[dQ (by rw[dq A _ hm.1];exact hp)]at h
    have:=kids A (n+1) p l r hm.1 h;omega
   ·rw[eM (by rw[dq A _ hm.1];omega),dq A _ hm.1]at h
    have:=kids B (n+1+nodes A) (p-nodes A) l r hm.2 h;omega
 | .wth A B,_,_,_,_,h,_| .plus A B,_,_,_,_,h,_| .ofc A,_,_,_,_,h,_| .whn A,_,_,_,_,h,_=>by simp[multiplicative]at h
theorem lK:∀(fs:List Formula) (n p l r:Nat),eO fs->((pointsFrom n fs)[p]? =some (.tensor l r)\/(pointsFrom n fs)[p]? =some (.par l r))->l=n+p+1/\ l<r/\ r<n+bf fs
 |[],n,p,l,r,_,h=>by simp[pointsFrom]at h
 |A::fs,n,p,l,r,hm,h=>by
  have hA:=hm A (by simp);simp only[pointsFrom]at h;simp only[bf];by_cases hp:p<nodes A
  ·rw[dQ (by rw[dq A _ hA];exact hp)]at h
   have:=kids A n p l r hA h;omega
  ·rw[eM (by rw[dq A _ hA];omega),dq A _ hA]at h
   have:=lK fs (n+nodes A) (p-nodes A) l r (λB hB=>hm B (by simp[hB])) h;omega
theorem Ih{k:Nat}{ps:List Point}{p:Nat}{x:Point}(h:ps[p]? =some x){y:Nat×Stand}(hy:y∈iI (k+p,x)):y∈cF k ps:=by unfold cF;refine gn.mpr ⟨(k+p,x),?_,hy⟩;obtain⟨hl,e⟩:=cP.mp h;refine jN.mpr ⟨p,?_⟩;rw[uW];exact⟨by rw[List.getElem?_range' hl];simp,h⟩
theorem BU{k:Nat}{ps:List Point}{y:Nat×Stand}(h:y∈cF k ps):∃p x,ps[p]? =some x/\ y∈iI (k+p,x):=by
 unfold cF at h;obtain⟨z,hz,hy⟩:=gn.mp h;obtain⟨p,hp⟩:=jN.mp hz;obtain⟨q,x⟩:=z;rw[uW]at hp;obtain⟨h1,h2⟩:=hp;obtain⟨hl,_⟩:=cP.mp h2;rw[List.getElem?_range' hl]at h1;have:q=k+p:=by simpa using h1.symm
 subst this;exact⟨p,x,h2,hy⟩
theorem find_key:∀{l:List (Nat×Stand)} {k:Nat} {v:Stand},(keys l).Nodup->(k,v)∈l->l.find? (λx=>x.1==k)=some (k,v)
 |[],k,v,_,h=>by simp at h
 |(a,b)::l,k,v,nd,h=>by
  have nd':(a::keys l).Nodup:=nd;obtain⟨h1,h2⟩:=fq.mp nd';rcases a_.mp h with e|h
  ·cases e
   rw[Bl];simp
  ·rw[List.find?_cons_of_neg]
   ·exact find_key h2 h
   ·intro e
    have e:a=k:=by simpa using e
    subst e;exact h1 (c9.mpr ⟨(a,v),h,U⟩)
theorem Q8{l:List (Nat×Stand)}{k:Nat}(h:k∉keys l):l.find? (λx=>x.1==k)=none:=by
 rw[List.find?_eq_none];intro x hx e;have e:x.1=k:=by simpa using e
 exact h (c9.mpr ⟨x,hx,e⟩)
def yr(n:Nat):Prop:=∃k,n=2*k
theorem vj:∀(l:List Nat),yr l.length->keys (cutRoots l)=l
 |[],_=>rfl
 |[a],h=>by obtain⟨k,h⟩:=h;simp at h;omega
 |a::b::r,h=>by
  have:yr r.length:=by obtain⟨k,h⟩:=h;exact⟨k-1,by simp at h;omega⟩
  show a::b::keys (cutRoots r)=_;rw[vj r this]
theorem lL:∀(fs:List Formula) (n:Nat),(rootsFrom n fs).length=fs.length
 |[],n=>rfl
 |A::r,n=>by simp[rootsFrom,lL r]
theorem Q9(s:Net):(formulas s).length=s.concl.length+2*s.cuts.length:=by
 unfold formulas;rw[bL];congr 1;induction s.cuts with
 |nil=>rfl
 |cons A r ih=>simp only[gE,bL,aX,ih];simp;omega
def dR(s:Net):List Nat:=rootsFrom 0 (formulas s)
def eV(s:Net):List Nat:=(dR s).drop s.concl.length
theorem vk(s:Net):yr (eV s).length:=by refine⟨s.cuts.length,?_⟩;unfold eV dR;rw[iE,lL,Q9];omega
theorem vm(s:Net):∀x∈eV s,x∈dR s:=λx hx=>xV hx
theorem BV(s:Net):keys (stands s)=keys (cF 0 (points s))++eV s:=by unfold stands;rw[lJ,tE];exact congrArg _ (vj _ (vk s))
theorem oq{s:Net}(hm:eO (formulas s)):(keys (stands s)).Nodup:=by obtain⟨h1,h2,h3⟩:=BS (formulas s) 0 hm;rw[BV,qJ];refine⟨h1,(yq _ _).sublist (Bm _ _),λx hx y hy e=>?_⟩;subst e;exact h3 x (vm s x hy) hx
theorem ot{l:List (Nat×Stand)}{p:Nat}{v:Stand}(nd:(keys l).Nodup)(h:(p,v)∈l):standOf l p=v:=by unfold standOf;rw[find_key nd h]
theorem Ii{l:List (Nat×Stand)}{p:Nat}(h:standOf l p≠ .concl):(p,standOf l p)∈l:=by
 unfold standOf at h⊢;cases hf:l.find? λx=>x.1==p with
 |none=>rw[hf]at h;exact absurd U h
 |some x=>
  have h1:=Bn hf;have h2:x.1=p:=by simpa using List.find?_some hf
  subst h2;exact h1
theorem Ij{s:Net}(hm:eO (formulas s)){p l r:Nat}(h:(points s)[p]? =some (.tensor l r)):standOf (stands s) l= .tensor p r false/\ standOf (stands s) r= .tensor p l true:=by
 have mem:∀y∈iI (0+p, .tensor l r),y∈stands s:=λy hy=>by unfold stands;rw[tE];exact mT _ (Ih h hy)
 rw[ft]at mem;exact⟨ot (oq hm) (mem _ (by simp[iI])),ot (oq hm) (mem _ (by simp[iI]))⟩
theorem Ik{s:Net}(hm:eO (formulas s)){p l r:Nat}(h:(points s)[p]? =some (.par l r)):standOf (stands s) l= .par p false/\ standOf (stands s) r= .par p true:=by
 have mem:∀y∈iI (0+p, .par l r),y∈stands s:=λy hy=>by unfold stands;rw[tE];exact mT _ (Ih h hy)
 rw[ft]at mem;exact⟨ot (oq hm) (mem _ (by simp[iI])),ot (oq hm) (mem _ (by simp[iI]))⟩
theorem vn:∀(l:List Nat) (x:Nat) (v:Stand),(x,v)∈cutRoots l->∃y,v= .cut y/\ (y, .cut x)∈cutRoots l
 |[],x,v,h|[a],x,v,h=>by simp[cutRoots]at h
 |a::b::r,x,v,h=>by
  simp only[cutRoots,a_]at h;rcases h with h|h|h
  ·cases h;exact⟨b,U,by simp[cutRoots]⟩
  ·cases h;exact⟨a,U,by simp[cutRoots]⟩
  ·obtain⟨y,h1,h2⟩:=vn r x v h
   exact⟨y,h1,by simp[cutRoots,h2]⟩
theorem yt{s:Net}(hm:eO (formulas s)){p:Nat}(h:standOf (stands s) p≠ .concl):
  (∃j l r,(points s)[j]? =some (.tensor l r)/\ ((p=l/\ standOf (stands s) p= .tensor j r false)\/(p=r/\ standOf (stands s) p= .tensor j l true)))\/
  (∃j l r,(points s)[j]? =some (.par l r)/\ ((p=l/\ standOf (stands s) p= .par j false)\/(p=r/\ standOf (stands s) p= .par j true)))\/
  (∃q,standOf (stands s) p= .cut q/\ standOf (stands s) q= .cut p/\ (p,Stand.cut q)∈cutRoots (eV s)):=by
 have m:=Ii h;generalize hv:standOf (stands s) p=v at m;unfold stands at m;rcases cN.mp m with m|m
 ·rw[tE]at m
  obtain⟨j,x,hj,hy⟩:=BU m;rw[ft]at hy;cases x with
  |leaf=>simp[iI]at hy
  |tensor l r=>
   simp only[iI,a_,xR,or_false]at hy;refine .inl ⟨j,l,r,hj,?_⟩;rcases hy with e|e
   ·cases e;exact .inl ⟨U,U⟩
   ·cases e;exact .inr ⟨U,U⟩
  |par l r=>
   simp only[iI,a_,xR,or_false]at hy;refine .inr (.inl ⟨j,l,r,hj,?_⟩);rcases hy with e|e
   ·cases e;exact .inl ⟨U,U⟩
   ·cases e;exact .inr ⟨U,U⟩
 ·obtain⟨y,h1,h2⟩:=vn _ _ _ m
  subst h1;refine .inr (.inr ⟨y,U,ot (oq hm) ?_,m⟩);unfold stands;exact iY _ h2
def dS:List Point->Nat->List Nat
 |[],_=>[]
 | .leaf::r,k=>k::dS r (k+1)
 | .tensor _ _::r,k| .par _ _::r,k=>dS r (k+1)
def Q_(x:Nat×Point):Option Nat:=match x.2 with
 | .leaf=>some x.1
 |_=>none
theorem Il:∀(ps:List Point) (k:Nat),((List.range' k ps.length).zip ps).filterMap Q_=dS ps k
 |[],k=>rfl
 |p::r,k=>by rw[aX,qL,sR,iF,Il r (k+1)];cases p<;>rfl
theorem gZ(ps:List Point):leafPoints ps=dS ps 0:=by unfold leafPoints;rw[oh,<-Il];congr 1
theorem tG:∀(ps qs:List Point) (k:Nat),dS (ps++qs) k=dS ps k++dS qs (k+ps.length)
 |[],qs,k=>rfl
 |p::r,qs,k=>by
  have e:k+(p::r).length=k+1+r.length:=by simp;omega
  rw[e,lF];cases p<;>simp only[dS,tG r qs (k+1)]<;>rfl
theorem yu:∀(ps:List Point) (k:Nat),∀x∈dS ps k,k<=x/\ x<k+ps.length
 |[],k,x,h=>by simp[dS]at h
 |p::r,k,x,h=>by
  have ih:=yu r (k+1) x;simp only[aX];cases p with
  |leaf=>
   simp only[dS,a_]at h;rcases h with rfl|h
   ·omega
   ·have:=ih h;omega
  |tensor _ _|par _ _=>have:=ih h;omega
theorem pL:∀(ps:List Point) (k:Nat),(dS ps k).Nodup
 |[],k=>nY
 |p::r,k=>by
  cases p with
  |leaf=>rw[dS,fq];exact⟨λh=>by have:=yu r (k+1) k h;omega,pL r (k+1)⟩
  |tensor _ _|par _ _=>exact pL r (k+1)
theorem vo:∀(ps:List Point) (k x:Nat),x∈dS ps k↔∃p,x=k+p/\ ps[p]? =some .leaf
 |[],k,x=>by simp[dS]
 |p::r,k,x=>by
  have ih:=vo r (k+1) x;have step:(∃q,x=k+1+q/\ r[q]? =some .leaf)↔∃q,x=k+(q+1)/\ (p::r)[q+1]? =some .leaf:=by
   constructor
   ·rintro⟨q,h1,h2⟩;exact⟨q,by omega,by simpa using h2⟩
   ·rintro⟨q,h1,h2⟩;exact⟨q,by omega,by simpa using h2⟩
  have aux:(∃q,x=k+q/\ (p::r)[q]? =some .leaf)↔(x=k/\ p= .leaf)\/∃q,x=k+(q+1)/\ (p::r)[q+1]? =some .leaf:=by
   constructor
   ·rintro⟨q,h1,h2⟩
    cases q with
    |zero=>exact .inl ⟨by omega,by simpa using h2⟩
    |succ q=>exact .inr ⟨q,h1,h2⟩
   ·rintro(⟨h1,h2⟩|⟨q,h1,h2⟩)
    ·exact⟨0,by omega,by simp[h2]⟩
    ·exact⟨q+1,h1,h2⟩
  rw[aux,<-step,<-ih];cases p with
  |leaf|tensor _ _|par _ _=>simp[dS]
theorem BW:∀(A:Formula) (n k:Nat),multiplicative A=true->(dS (pointsOf n A) k).length=atoms A
 | .atom _ _,n,k,_=>rfl
 | .tensor A B,n,k,h| .par A B,n,k,h=>by simp only[multiplicative,bb]at h;simp only[pointsOf,dS,tG,bL,BW A _ _ h.1,BW B _ _ h.2,atoms]
 | .wth A B,_,_,h| .plus A B,_,_,h| .ofc A,_,_,h| .whn A,_,_,h=>by simp[multiplicative]at h
theorem BX:∀(fs:List Formula) (n k:Nat),eO fs->(dS (pointsFrom n fs) k).length=(fs.flatMap leaves).length
 |[],n,k,_=>rfl
 |A::r,n,k,h=>by rw[pointsFrom,tG,bL,BW A _ _ (h A (by simp)),BX r _ _ λB hB=>h B (by simp[hB]),gE,bL,qS]
theorem yw:∀{l:List Nat} {i x:Nat},l.Nodup->l[i]? =some x->l.findIdx (λq=>q==x)=i
 |[],i,x,_,h=>by simp at h
 |a::l,0,x,nd,h=>by
  have:a=x:=by simpa using h
  subst this;rw[List.findIdx_cons];simp
 |a::l,i+1,x,nd,h=>by
  obtain⟨h1,h2⟩:=fq.mp nd;have hx:l[i]? =some x:=by simpa using h
  have b8:(a==x)=false:=by rw[beq_eq_false_iff_ne];rintro rfl;exact h1 (bC hx)
  rw[List.findIdx_cons,b8,yw h2 hx];rfl
structure Good(s:Net):Prop where
 mul:eO (formulas s)
 Im:linked (allLeaves s) s.to=true
def partner(s:Net)(p:Nat):Nat:=(leafPoints (points s)).getD (s.to.getD ((leafPoints (points s)).findIdx λq=>q==p) 0) 0
theorem Good.len{s:Net}(g:Good s):s.to.length=(leafPoints (points s)).length:=by
 have h:=g.Im;unfold linked at h;rw[bb]at h;have h1:s.to.length=(allLeaves s).length:=by simpa using h.1
 rw[h1,gZ];exact(BX (formulas s) 0 0 g.mul).symm
theorem Good.to{s:Net}(g:Good s){i:Nat}(hi:i<s.to.length):∃j,s.to[i]? =some j/\ s.to[j]? =some i/\ j<s.to.length:=by
 have h:=g.Im;unfold linked at h;rw[bb]at h;have:=iC.mp h.2 i (jq.mpr hi);rw[br hi]at this;dsimp only at this;rw[bb]at this;have h2:s.to[s.to[i]]? =some i:=by simpa using this.1
 exact⟨s.to[i],br hi,h2,(cP.mp h2).1⟩
theorem eX{α:Type}{l:List α}{i:Nat}{x d:α}(h:l[i]? =some x):l.getD i d=x:=by rw[nZ,h];rfl
theorem Good.pair{s:Net}(g:Good s){p:Nat}(h:(points s)[p]? =some .leaf):∃i j:Nat,(leafPoints (points s))[i]? =some p/\ s.to[i]? =some j/\ s.to[j]? =some i/\ (leafPoints (points s))[j]? =some (partner s p):=by
 have hp:p∈leafPoints (points s):=by rw[gZ];exact(vo _ _ _).mpr ⟨p,by omega,h⟩
 obtain⟨i,hi⟩:=jN.mp hp;have BY:=(cP.mp hi).1;obtain⟨j,h1,h2,h3⟩:=g.to (i:=i) (by rw[g.len];exact BY);have nd:(leafPoints (points s)).Nodup:=by rw[gZ];exact pL _ _
 refine⟨i,j,hi,h1,h2,?_⟩;have hj:j<(leafPoints (points s)).length:=by rw[<-g.len];exact h3
 unfold partner;rw[yw nd hi,eX h1,br hj,eX (br hj)]
theorem Good.Io{s:Net}(g:Good s){p:Nat}(h:(points s)[p]? =some .leaf):(points s)[partner s p]? =some .leaf/\ partner s (partner s p)=p:=by
 obtain⟨i,j,h1,h2,h3,h4⟩:=g.pair h;have nd:(leafPoints (points s)).Nodup:=by rw[gZ];exact pL _ _
 have hm:partner s p∈leafPoints (points s):=bC h4;rw[gZ]at hm;obtain⟨q,e,hq⟩:=(vo _ _ _).mp hm;rw[ft]at e;subst e;refine⟨hq,?_⟩;rw[show partner s (partner s p)=(leafPoints (points s)).getD (s.to.getD ((leafPoints (points s)).findIdx λq=>q==partner s p) 0) 0 from rfl,yw nd h4,eX h3,eX h1]
def lM(s:Net)(w:Switches)(a:Nat):Nat:=if a%2=0 then behindUp s (points s) w (a/2)else behindDown (stands s) w (a/2)
def pM(s:Net)(w:Switches)(a:Nat):Nat:=
 if a%2=0 then(match standOf (stands s) (a/2)with
  | .concl=>down (a/2)
  | .cut r=>down r
  | .tensor j o sec=>if sec=switchAt w j then up j else down o
  | .par j sec=>if sec=switchAt w j then up j else down (a/2))
 else(match(points s)[a/2]? with
  |some (.tensor l r)=>down (if switchAt w (a/2)=true then l else r)
  |some (.par l r)=>down (if switchAt w (a/2)=true then r else l)
  |_=>up (partner s (a/2)))
theorem Ip(p:Nat):up p%2=0/\ up p/2=p:=by unfold up;omega
theorem Iq(p:Nat):¬down p%2=0/\ down p/2=p:=by unfold down;omega
theorem m8(s:Net)(w:Switches)(p:Nat):pM s w (up p)=match standOf (stands s) p with
  | .concl=>down p
  | .cut r=>down r
  | .tensor j o sec=>if sec=switchAt w j then up j else down o
  | .par j sec=>if sec=switchAt w j then up j else down p:=by
 unfold pM;rw[if_pos (Ip p).1,(Ip p).2]
theorem vp(s:Net)(w:Switches)(p:Nat):pM s w (down p)=match(points s)[p]? with
  |some (.tensor l r)=>down (if switchAt w p=true then l else r)
  |some (.par l r)=>down (if switchAt w p=true then r else l)
  |_=>up (partner s p):=by
 unfold pM;rw[if_neg (Iq p).1,(Iq p).2]
theorem BZ{s:Net}(g:Good s)(w:Switches){a:Nat}(ha:a<2*(points s).length):pM s w (lM s w a)=a/\ lM s w a<2*(points s).length:=by
 have hn:(points s).length=bf (formulas s):=jV _ _ g.mul;unfold lM;have hp:a/2<(points s).length:=by omega
 by_cases h0:a%2=0
 ·rw[if_pos h0]
  have ea:up (a/2)=a:=by unfold up;omega
  generalize a/2=p at*;unfold behindUp;obtain⟨x,hx⟩:∃x,(points s)[p]? =some x:=⟨_,br hp⟩
  rw[hx];cases x with
  |leaf=>obtain⟨h1,h2⟩:=g.Io hx;show pM s w (down (partner s p))=a/\ down (partner s p)<_;rw[vp,h1];have:=(cP.mp h1).1;refine⟨?_,by unfold down;omega⟩;show up (partner s (partner s p))=a;rw[h2,ea]
  |tensor l r=>
   obtain⟨h1,h2⟩:=Ij g.mul hx;have hk:=lK (formulas s) 0 p l r g.mul (.inl hx);show pM s w (up (if switchAt w p=true then r else l))=a/\ _;cases hs:switchAt w p
   ·simp only[pz,if_false]
    rw[m8,h1];refine⟨?_,by unfold up;omega⟩;show(if false=switchAt w p then up p else down r)=a;rw[hs,if_pos U,ea]
   ·simp only[if_true]
    rw[m8,h2];refine⟨?_,by unfold up;omega⟩;show(if true=switchAt w p then up p else down l)=a;rw[hs,if_pos U,ea]
  |par l r=>
   obtain⟨h1,h2⟩:=Ik g.mul hx;have hk:=lK (formulas s) 0 p l r g.mul (.inr hx);show pM s w (up (if switchAt w p=true then r else l))=a/\ _;cases hs:switchAt w p
   ·simp only[pz,if_false]
    rw[m8,h1];refine⟨?_,by unfold up;omega⟩;show(if false=switchAt w p then up p else down l)=a;rw[hs,if_pos U,ea]
   ·simp only[if_true]
    rw[m8,h2];refine⟨?_,by unfold up;omega⟩;show(if true=switchAt w p then up p else down r)=a;rw[hs,if_pos U,ea]
 ·rw[if_neg h0]
  have ea:down (a/2)=a:=by unfold down;omega
  generalize a/2=p at*;by_cases hc:standOf (stands s) p= .concl
  ·have e:behindDown (stands s) w p=up p:=by unfold behindDown;rw[hc]
   rw[e,m8,hc];exact⟨ea,by unfold up;omega⟩
  ·rcases yt g.mul hc with⟨j,l,r,hj,h⟩|⟨j,l,r,hj,h⟩|⟨q,h1,h2,h3⟩
   ·obtain⟨t1,t2⟩:=Ij g.mul hj
    have hk:=lK (formulas s) 0 j l r g.mul (.inl hj);rcases h with⟨rfl,h⟩|⟨rfl,h⟩
    ·have e:behindDown (stands s) w p=if false=switchAt w j then up r else down j:=by unfold behindDown;rw[h]
     rw[e];cases hs:switchAt w j
     ·rw[if_pos U,m8,t2]
      refine⟨?_,by unfold up;omega⟩;show(if true=switchAt w j then up j else down p)=a;rw[hs,if_neg (by decide),ea]
     ·rw[if_neg (by decide),vp,hj]
      refine⟨?_,by unfold down;omega⟩;show down (if switchAt w j=true then p else r)=a;rw[hs,if_pos U,ea]
    ·have e:behindDown (stands s) w p=if true=switchAt w j then up l else down j:=by unfold behindDown;rw[h]
     rw[e];cases hs:switchAt w j
     ·rw[if_neg (by decide),vp,hj]
      refine⟨?_,by unfold down;omega⟩;show down (if switchAt w j=true then l else p)=a;rw[hs,if_neg (by decide),ea]
     ·rw[if_pos U,m8,t1]
      refine⟨?_,by unfold up;omega⟩;show(if false=switchAt w j then up j else down p)=a;rw[hs,if_neg (by decide),ea]
   ·obtain⟨t1,t2⟩:=Ik g.mul hj
    have hk:=lK (formulas s) 0 j l r g.mul (.inr hj);rcases h with⟨rfl,h⟩|⟨rfl,h⟩
    ·have e:behindDown (stands s) w p=if false=switchAt w j then down j else up p:=by unfold behindDown;rw[h]
     rw[e];cases hs:switchAt w j
     ·rw[if_pos U,vp,hj]
      refine⟨?_,by unfold down;omega⟩;show down (if switchAt w j=true then r else p)=a;rw[hs,if_neg (by decide),ea]
     ·rw[if_neg (by decide),m8,h]
      refine⟨?_,by unfold up;omega⟩;show(if false=switchAt w j then up j else down p)=a;rw[hs,if_neg (by decide),ea]
    ·have e:behindDown (stands s) w p=if true=switchAt w j then down j else up p:=by unfold behindDown;rw[h]
     rw[e];cases hs:switchAt w j
     ·rw[if_neg (by decide),m8,h]
      refine⟨?_,by unfold up;omega⟩;show(if true=switchAt w j then up j else down p)=a;rw[hs,if_neg (by decide),ea]
     ·rw[if_pos U,vp,hj]
      refine⟨?_,by unfold down;omega⟩;show down (if switchAt w j=true then p else l)=a;rw[hs,if_pos U,ea]
   ·have e:behindDown (stands s) w p=up q:=by unfold behindDown;rw[h1]
    rw[e,m8,h2];refine⟨ea,?_⟩;have hq:q∈eV s:=by obtain⟨y,e,hy⟩:=vn _ _ _ h3;cases e;have:q∈keys (cutRoots (eV s)):=c9.mpr ⟨_,hy,U⟩;rwa[vj _ (vk s)]at this
    have:=m7 (formulas s) 0 q (vm s q hq);unfold up;omega
def cZ(f:Nat->Nat):Nat->Nat->Nat
 |0,p=>p
 |k+1,p=>f (cZ f k p)
theorem least{P:Nat->Prop}:∀(n:Nat),P n->∃k,k<=n/\ P k/\ ∀j,j<k->¬P j:=by
 intro n;induction n using Nat.strongRecOn with
 |ind n ih=>
  intro h;by_cases hc:∃j,j<n/\ P j
  ·obtain⟨j,hj,hp⟩:=hc
   obtain⟨k,h1,h2,h3⟩:=ih j hj hp;exact⟨k,by omega,h2,h3⟩
  ·exact⟨n,aM _,h,λj hj hp=>hc ⟨j,hj,hp⟩⟩
theorem tH{f:Nat->Nat}{m:Nat}(hf:∀a,a<m->f a<m){p:Nat}(hp:p<m):∀k,cZ f k p<m
 |0=>hp
 |k+1=>hf _ (tH hf hp k)
theorem Ir{f g:Nat->Nat}{m:Nat}(hf:∀a,a<m->f a<m)(hg:∀a,a<m->g (f a)=a){p:Nat}(hp:p<m):∀(i k:Nat),cZ f i p=cZ f (i+k) p->p=cZ f k p
 |0,k,h=>by simpa [cZ]using h
 |i+1,k,h=>by
  have e:i+1+k=(i+k)+1:=by omega
  rw[e]at h;have h2:g (f (cZ f i p))=g (f (cZ f (i+k) p)):=congrArg g h;rw[hg _ (tH hf hp _),hg _ (tH hf hp _)]at h2;exact Ir hf hg hp i k h2
theorem comes{f g:Nat->Nat}{m:Nat}(hf:∀a,a<m->f a<m)(hg:∀a,a<m->g (f a)=a){p:Nat}(hp:p<m):∃k,1<=k/\ k<=m/\ cZ f k p=p/\ ∀j,1<=j->j<k->cZ f j p≠p:=by
 have ex:∃k,1<=k/\ k<=m/\ cZ f k p=p:=by
  apply Classical.byContradiction;intro hc;have inj:∀i j,i<j->j<=m->cZ f i p≠cZ f j p:=by intro i j iH Iu e;have:=Ir hf hg hp i (j-i) (by rw[show i+(j-i)=j by omega];exact e);exact hc ⟨j-i,by omega,by omega,this.symm⟩
  have nd:((List.range (m+1)).map λk=>cZ f k p).Nodup:=by unfold List.Nodup;rw[List.pairwise_map];refine List.Pairwise.imp_of_mem ?_ (List.pairwise_lt_range (n:=m+1));intro a b ha hb g_;exact inj a b g_ (by have:=jq.mp hb;omega)
  have:=tw (m:=List.range m) nd λx hx=>by obtain⟨k,_,rfl⟩:=c9.mp hx;exact jq.mpr (tH hf hp k)
  simp at this;omega
 obtain⟨k,h1,h2,h3⟩:=ex;obtain⟨k',h4,h5,h6⟩:=least (P:=λk=>1<=k/\ cZ f k p=p) k ⟨h1,h3⟩;exact⟨k',h5.1,by omega,h5.2,λj hj hk e=>h6 j hk ⟨hj,e⟩⟩
theorem Iv{next:List Nat}{f:Nat->Nat}{m p k:Nat}(hn:∀a,a<m->next.getD a 0=f a)(hf:∀a,a<m->f a<m)(hp:p<m)(hk:cZ f k p=p)(hl:∀j,1<=j->j<k->cZ f j p≠p):
  ∀(fuel j:Nat),j<k->k-j<=fuel->tripFrom next p fuel (cZ f j p)=(List.range (k-j)).map λi=>cZ f (j+i) p
 |0,j,h1,h2=>by omega
 |fuel+1,j,h1,h2=>by
  rw[tripFrom,hn _ (tH hf hp j)];have e:k-j=(k-j-1)+1:=by omega
  rw[e,List.range_succ_eq_map,da,pC];congr 1;by_cases hj:j+1=k
  ·have e1:f (cZ f j p)=p:=by
    show cZ f (j+1) p=p;rw[hj,hk]
   rw[if_pos e1,show k-j-1=0 by omega];rfl
  ·have e1:¬f (cZ f j p)=p:=hl (j+1) (by omega) (by omega)
   rw[if_neg e1];show tripFrom next p fuel (cZ f (j+1) p)=_
   rw[Iv hn hf hp hk hl fuel (j+1) (by omega) (by omega),jO,show k-(j+1)=k-j-1 by omega];apply sS;intro i _;show cZ f (j+1+i) p=cZ f (j+(i+1)) p;congr 1;omega
theorem vq(f g:Nat->Nat):∀n,((List.range n).flatMap λp=>[f p,g p]).length=2*n
 |0=>rfl
 |n+1=>by rw[sT,px,bL,vq f g n];simp;omega
theorem Iw(f g:Nat->Nat):∀n a,a<2*n->((List.range n).flatMap λp=>[f p,g p])[a]? =some (if a%2=0 then f (a/2)else g (a/2))
 |0,a,h=>by omega
 |n+1,a,h=>by
  rw[sT,px];by_cases ha:a<2*n
  ·rw[dQ (by rw[vq];exact ha),Iw f g n a ha]
  ·rw[eM (by rw[vq];omega),vq]
   have:a=2*n\/a=2*n+1:=by omega
   rcases this with rfl|rfl
   ·rw[if_pos (by omega),show 2*n-2*n=0 by omega,show 2*n/2=n by omega];rfl
   ·rw[if_neg (by omega),show 2*n+1-2*n=1 by omega,show(2*n+1)/2=n by omega];rfl
theorem Iy(s:Net)(w:Switches){a:Nat}(ha:a<2*(points s).length):(behind s w).getD a 0=lM s w a:=by unfold behind;exact eX (Iw _ _ _ a ha)
theorem B0(s:Net)(w:Switches):(behind s w).length=2*(points s).length:=by unfold behind;exact vq _ _ _
theorem B1{s:Net}(g:Good s)(v:List Bool){p:Nat}(hp:p<2*(points s).length):∃k,1<=k/\ k<=2*(points s).length/\ cZ (lM s (withSwitches s v)) k p=p/\
  (∀j,1<=j->j<k->cZ (lM s (withSwitches s v)) j p≠p)/\ Vanetg.trip s v p=(List.range k).map λi=>cZ (lM s (withSwitches s v)) i p:=by
 have hf:∀a,a<2*(points s).length->lM s (withSwitches s v) a<2*(points s).length:=λa ha=>(BZ g _ ha).2;obtain⟨k,h1,h2,h3,h4⟩:=comes hf (λa ha=>(BZ g (withSwitches s v) ha).1) hp;refine⟨k,h1,h2,h3,h4,?_⟩;unfold Vanetg.trip tripIn;have:=Iv (next:=behind s (withSwitches s v)) (λa ha=>Iy s _ ha) hf hp h3 h4 (behind s (withSwitches s v)).length 0 (by omega) (by rw[B0];omega);rw[show cZ (lM s (withSwitches s v)) 0 p=p from rfl]at this;rw[this];simp
structure PA where
 nodes:List Node
 below:List Int
 sides:List Int
 seconds:List Int
 switches:List Int
 partners:List Int
 turns:List Int
 jc:Nat
def PA.empty:PA:=⟨[],[],[],[],[],[],[],0⟩
def dz(S:PA)(x:Node)(b sd:Int):PA:=
 {nodes:=S.nodes++[x],below:=S.below++[b],sides:=S.sides++[sd],seconds:=S.seconds++[-1],partners:=S.partners++[-1],turns:=S.turns++[-1],
  switches:=S.switches++[if bR x=true then(S.jc:Int)else-1],jc:=if bR x=true then S.jc+1 else S.jc}
def d4(S:PA)(b sd:Int)(p:Nat):PA:=if sd=1 then{S with seconds:=S.seconds.set b.toNat p}else S
def qX(x:Node)(p:Nat)(aw:List (Int×Int)):List (Int×Int):=if bR x=true then((p:Int),0)::((p:Int),1)::aw else aw
def hU(z:PA×List (Int×Int))(x:Node):PA×List (Int×Int):=match z.2 with
 |(b,sd)::aw=>(d4 (dz z.1 x b sd) b sd z.1.nodes.length,qX x z.1.nodes.length aw)
 |[]=>z
def gr(S:PA)(b sd:Int):Formula->PA
 | .tensor A B=>gr (gr (d4 (dz S (2,[]) b sd) b sd S.nodes.length) S.nodes.length 0 A) S.nodes.length 1 B
 | .par A B=>gr (gr (d4 (dz S (3,[]) b sd) b sd S.nodes.length) S.nodes.length 0 A) S.nodes.length 1 B
 | .atom n a=>d4 (dz S (if n=true then 1 else 0,a) b sd) b sd S.nodes.length
 |_=>S
theorem tI:∀(A:Formula),multiplicative A=true->∀(S:PA) (b sd:Int) (aw:List (Int×Int)),(enc A).foldl hU (S,(b,sd)::aw)=(gr S b sd A,aw)
 | .atom n a,_,S,b,sd,aw=>by cases n<;>rfl
 | .tensor A B,h,S,b,sd,aw=>by simp only[multiplicative,bb]at h;simp only[enc,qM,uT];show(enc B).foldl hU ((enc A).foldl hU (d4 (dz S (2,[]) b sd) b sd S.nodes.length,((S.nodes.length:Int),0)::((S.nodes.length:Int),1)::aw))=_;rw[tI A h.1,tI B h.2];rfl
 | .par A B,h,S,b,sd,aw=>by simp only[multiplicative,bb]at h;simp only[enc,qM,uT];show(enc B).foldl hU ((enc A).foldl hU (d4 (dz S (3,[]) b sd) b sd S.nodes.length,((S.nodes.length:Int),0)::((S.nodes.length:Int),1)::aw))=_;rw[tI A h.1,tI B h.2];rfl
 | .wth A B,h,_,_,_,_| .plus A B,h,_,_,_,_| .ofc A,h,_,_,_,_| .whn A,h,_,_,_,_=>by simp[multiplicative]at h
def dg(n:Nat)(b:Int):Formula->List Int
 | .tensor A B| .par A B=>b::(dg (n+1) n A++dg (n+1+nodes A) n B)
 |_=>[b]
def dh(sd:Int):Formula->List Int
 | .tensor A B| .par A B=>sd::(dh 0 A++dh 1 B)
 |_=>[sd]
def dG(n:Nat):Formula->List Int
 | .tensor A B| .par A B=>((n+1+nodes A:Nat):Int)::(dG (n+1) A++dG (n+1+nodes A) B)
 |_=>[-1]
def Ra:Point->Bool
 | .leaf=>false
 |_=>true
def f9:List Point->Nat->List Int
 |[],_=>[]
 | .leaf::r,j=> -1::f9 r j
 | .tensor _ _::r,j| .par _ _::r,j=>(j:Int)::f9 r (j+1)
def jn:Formula->Nat
 | .tensor A B| .par A B=>1+jn A+jn B
 |_=>0
def fP:List Point->Nat
 |[]=>0
 | .leaf::r=>fP r
 | .tensor _ _::r| .par _ _::r=>1+fP r
theorem B2:∀(ps qs:List Point),fP (ps++qs)=fP ps+fP qs
 |[],qs=>by simp[fP]
 |p::r,qs=>by cases p<;>simp only[lF,fP,B2 r qs]<;>omega
theorem yx:∀(A:Formula) (n:Nat),multiplicative A=true->fP (pointsOf n A)=jn A
 | .atom _ _,n,_=>rfl
 | .tensor A B,n,h| .par A B,n,h=>by simp only[multiplicative,bb]at h;simp only[pointsOf,fP,B2,yx A _ h.1,yx B _ h.2,jn];omega
 | .wth A B,_,h| .plus A B,_,h| .ofc A,_,h| .whn A,_,h=>by simp[multiplicative]at h
theorem yy:∀(ps qs:List Point) (j:Nat),f9 (ps++qs) j=f9 ps j++f9 qs (j+fP ps)
 |[],qs,j=>by simp[f9,fP]
 |p::r,qs,j=>by
  cases p with
  |leaf=>simp only[lF,f9,fP,yy r qs]
  |tensor _ _|par _ _=>simp only[lF,f9,fP,yy r qs];rw[show j+1+fP r=j+(1+fP r) by omega]
theorem gu:∀(A:Formula) (n:Nat) (b:Int),multiplicative A=true->(dg n b A).length=nodes A
 | .atom _ _,n,b,_=>rfl
 | .tensor A B,n,b,h| .par A B,n,b,h=>by simp only[multiplicative,bb]at h;simp only[dg,nodes,aX,bL,gu A _ _ h.1,gu B _ _ h.2];omega
 | .wth A B,_,_,h| .plus A B,_,_,h| .ofc A,_,_,h| .whn A,_,_,h=>by simp[multiplicative]at h
theorem hX:∀(A:Formula) (b:Int),multiplicative A=true->(dh b A).length=nodes A
 | .atom _ _,b,_=>rfl
 | .tensor A B,b,h| .par A B,b,h=>by simp only[multiplicative,bb]at h;simp only[dh,nodes,aX,bL,hX A _ h.1,hX B _ h.2];omega
 | .wth A B,_,h| .plus A B,_,h| .ofc A,_,h| .whn A,_,h=>by simp[multiplicative]at h
theorem gG:∀(A:Formula) (n:Nat),multiplicative A=true->(dG n A).length=nodes A
 | .atom _ _,n,_=>rfl
 | .tensor A B,n,h| .par A B,n,h=>by simp only[multiplicative,bb]at h;simp only[dG,nodes,aX,bL,gG A _ h.1,gG B _ h.2];omega
 | .wth A B,_,h| .plus A B,_,h| .ofc A,_,h| .whn A,_,h=>by simp[multiplicative]at h
def pN(S:PA)(b sd:Int):List Int:=if sd=1 then S.seconds.set b.toNat S.nodes.length else S.seconds
def laid(S:PA)(b sd:Int)(A:Formula):PA:=
 {nodes:=S.nodes++enc A,below:=S.below++dg S.nodes.length b A,sides:=S.sides++dh sd A,seconds:=pN S b sd++dG S.nodes.length A,
  switches:=S.switches++f9 (pointsOf S.nodes.length A) S.jc,partners:=S.partners++List.replicate (nodes A) (-1),turns:=S.turns++List.replicate (nodes A) (-1),jc:=S.jc+jn A}
theorem yz(S:PA)(b sd:Int):(pN S b sd).length=S.seconds.length:=by unfold pN;split<;>simp
theorem tJ(S:PA)(x:Node)(b sd:Int)(hb:sd=1->b.toNat<S.nodes.length)(hs:S.seconds.length=S.nodes.length):
  d4 (dz S x b sd) b sd S.nodes.length={dz S x b sd with seconds:=pN S b sd++[-1]}:=by
 unfold d4 pN dz;split
 ·rename_i h
  simp only;rw[List.set_append_left _ _ (by rw[hs];exact hb h)]
 ·rfl
theorem Iz(S:PA)(b sd:Int)(hb:sd=1->b.toNat<S.nodes.length)(hs:S.seconds.length=S.nodes.length)(A B:Formula)(hA:multiplicative A=true)(hB:multiplicative B=true)(k:Nat)(hk:k=2\/k=3)(C:Formula)
  (e1:enc C=(k,[])::(enc A++enc B)) (e2:dg S.nodes.length b C=b::(dg (S.nodes.length+1) S.nodes.length A++dg (S.nodes.length+1+nodes A) S.nodes.length B))
  (e3:dh sd C=sd::(dh 0 A++dh 1 B)) (e4:dG S.nodes.length C=((S.nodes.length+1+nodes A:Nat):Int)::(dG (S.nodes.length+1) A++dG (S.nodes.length+1+nodes A) B))
  (e5:f9 (pointsOf S.nodes.length C) S.jc=(S.jc:Int)::f9 (pointsOf (S.nodes.length+1) A++pointsOf (S.nodes.length+1+nodes A) B) (S.jc+1)) (e6:nodes C=1+nodes A+nodes B) (e7:jn C=1+jn A+jn B):
  laid (laid (d4 (dz S (k,[]) b sd) b sd S.nodes.length) S.nodes.length 0 A) S.nodes.length 1 B=laid S b sd C:=by
 rw[tJ S _ b sd hb hs];have hj:bR ((k,[]):Node)=true:=by rcases hk with rfl|rfl<;>rfl
 unfold laid;rw[e1,e2,e3,e4,e5,e6,e7,yy,yx A _ hA];simp only[dz,hj,if_true,bL,List.length_singleton,bJ,pN,iZ];have z:(0:Int)=1↔False:=by decide
 simp only[z,if_false];have es:((if sd=1 then S.seconds.set b.toNat ↑S.nodes.length else S.seconds)++[-1]++dG (S.nodes.length+1) A).set S.nodes.length ((S.nodes.length+1+nodes A:Nat):Int)
   =(if sd=1 then S.seconds.set b.toNat ↑S.nodes.length else S.seconds)++((S.nodes.length+1+nodes A:Nat):Int)::dG (S.nodes.length+1) A:=by
  have hl:(if sd=1 then S.seconds.set b.toNat ↑S.nodes.length else S.seconds).length=S.nodes.length:=by split<;>simp[hs]
  rw[fK,List.set_append_right _ _ (by omega),hl,qN];rfl
 rw[es];have er:∀(l:List Int),l++[-1]++List.replicate (nodes A) (-1)++List.replicate (nodes B) (-1)=l++List.replicate (1+nodes A+nodes B) (-1):=by intro l;rw[pD,<-Bo,<-Bo];simp
 rw[er,er];have ejc:S.jc+1+jn A+jn B=S.jc+(1+jn A+jn B):=by omega
 rw[ejc];simp
theorem vt:∀(A:Formula),multiplicative A=true->∀(S:PA) (b sd:Int),(sd=1->b.toNat<S.nodes.length)->S.seconds.length=S.nodes.length->gr S b sd A=laid S b sd A
 | .atom n a,_,S,b,sd,hb,hs=>by show d4 (dz S (if n=true then 1 else 0,a) b sd) b sd S.nodes.length=_;rw[tJ S _ b sd hb hs];cases n<;>rfl
 | .tensor A B,h,S,b,sd,hb,hs=>by
  simp only[multiplicative,bb]at h;show gr (gr (d4 (dz S (2,[]) b sd) b sd S.nodes.length) S.nodes.length 0 A) S.nodes.length 1 B=_;have l1:(d4 (dz S (2,[]) b sd) b sd S.nodes.length).nodes.length=S.nodes.length+1:=by rw[tJ S _ b sd hb hs];simp[dz]
  have l2:(d4 (dz S (2,[]) b sd) b sd S.nodes.length).seconds.length=S.nodes.length+1:=by rw[tJ S _ b sd hb hs];simp[yz,hs]
  rw[vt A h.1 _ _ _ (by intro h;cases h) (by rw[l1,l2])];rw[vt B h.2 _ _ _ (by intro _;simp only[laid,bL,iZ,l1];omega) (by simp only[laid,bL,yz,l1,l2,gG A _ h.1,bJ])];exact Iz S b sd hb hs A B h.1 h.2 2 (.inl U) _ U U U U U U U
 | .par A B,h,S,b,sd,hb,hs=>by
  simp only[multiplicative,bb]at h;show gr (gr (d4 (dz S (3,[]) b sd) b sd S.nodes.length) S.nodes.length 0 A) S.nodes.length 1 B=_;have l1:(d4 (dz S (3,[]) b sd) b sd S.nodes.length).nodes.length=S.nodes.length+1:=by rw[tJ S _ b sd hb hs];simp[dz]
  have l2:(d4 (dz S (3,[]) b sd) b sd S.nodes.length).seconds.length=S.nodes.length+1:=by rw[tJ S _ b sd hb hs];simp[yz,hs]
  rw[vt A h.1 _ _ _ (by intro h;cases h) (by rw[l1,l2])];rw[vt B h.2 _ _ _ (by intro _;simp only[laid,bL,iZ,l1];omega) (by simp only[laid,bL,yz,l1,l2,gG A _ h.1,bJ])];exact Iz S b sd hb hs A B h.1 h.2 3 (.inr U) _ U U U U U U U
 | .wth A B,h,_,_,_,_,_| .plus A B,h,_,_,_,_,_| .ofc A,h,_,_,_,_,_| .whn A,h,_,_,_,_,_=>by simp[multiplicative]at h
def fQ(S:PA)(A:Formula):PA:={gr S (-1) (-1) A with turns:=(gr S (-1) (-1) A).turns.set S.nodes.length S.nodes.length}
def iJ(S:PA):List Formula->PA
 |[]=>S
 |A::r=>iJ (fQ S A) r
def f_:Nat->List Formula->List Int
 |_,[]=>[]
 |n,A::r=>dg n (-1) A++f_ (n+nodes A) r
def iK:List Formula->List Int
 |[]=>[]
 |A::r=>dh (-1) A++iK r
def i6:Nat->List Formula->List Int
 |_,[]=>[]
 |n,A::r=>dG n A++i6 (n+nodes A) r
def lN:Nat->List Formula->List Int
 |_,[]=>[]
 |n,A::r=>(List.replicate (nodes A) (-1:Int)).set 0 n++lN (n+nodes A) r
structure IA(S:PA):Prop where
 sec:S.seconds.length=S.nodes.length
 B3:S.turns.length=S.nodes.length
theorem yA:∀(fs:List Formula) (S:PA),eO fs->IA S->iJ S fs=
  {nodes:=S.nodes++fs.flatMap enc,below:=S.below++f_ S.nodes.length fs,sides:=S.sides++iK fs,seconds:=S.seconds++i6 S.nodes.length fs,
   switches:=S.switches++f9 (pointsFrom S.nodes.length fs) S.jc,partners:=S.partners++List.replicate (bf fs) (-1),turns:=S.turns++lN S.nodes.length fs,jc:=S.jc+fP (pointsFrom S.nodes.length fs)}
 |[],S,_,_=>by simp[iJ,f_,iK,i6,lN,pointsFrom,f9,fP,bf]
 |A::r,S,hm,hl=>by
  have hA:=hm A (by simp);have hr:eO r:=λB hB=>hm B (by simp[hB]);have e1:gr S (-1) (-1) A=laid S (-1) (-1) A:=vt A hA S _ _ (by intro h;cases h) hl.sec;have en:(fQ S A).nodes.length=S.nodes.length+nodes A:=by unfold fQ;rw[e1];simp[laid,bJ]
  have e2:fQ S A={laid S (-1) (-1) A with turns:=S.turns++(List.replicate (nodes A) (-1:Int)).set 0 S.nodes.length}:=by
   have et:(laid S (-1) (-1) A).turns.set S.nodes.length (S.nodes.length:Int)=S.turns++(List.replicate (nodes A) (-1:Int)).set 0 S.nodes.length:=by show(S.turns++List.replicate (nodes A) (-1)).set S.nodes.length _=_;rw[List.set_append_right _ _ (by rw[hl.B3];exact aM _),hl.B3,qN]
   unfold fQ;rw[e1,et]
  have dH:IA (fQ S A):=by
   constructor
   ·rw[en,e2];simp[laid,pN,gG A _ hA,hl.sec]
   ·rw[en,e2];simp[hl.B3]
  show iJ (fQ S A) r=_;rw[yA r (fQ S A) hr dH,en,e2];have ejc:fP (pointsOf S.nodes.length A)=jn A:=yx A _ hA;simp only[laid,gE,f_,iK,i6,lN,pointsFrom,bf,yy,B2,ejc,pN,fK];have z:(-1:Int)=1↔False:=by decide
  simp only[z,if_false,pD];rw[<-Bo]
theorem ou(A:Formula)(n:Nat)(b sd:Int)(h:multiplicative A=true):(dg n b A)[0]? =some b/\ (dh sd A)[0]? =some sd:=by
 cases A<;>first|exact⟨U,U⟩|simp[multiplicative]at h
theorem m9{α:Type}{l m:List α}{k i:Nat}(hl:l.length=k):(l++m)[k+i]? =m[i]?:=by rw[eM (by omega),hl];congr 1;omega
theorem ox{α:Type}{l m:List α}{k i:Nat}(hl:l.length=k)(hi:i<k):(l++m)[i]? =l[i]?:=dQ (by omega)
structure jx(nd:List Node)(be si se:List Int)(n p r:Nat)(k:Nat):Prop where
 node:nd[p]? =some (k,[])
 sec:se[p]? =some (r:Int)
 b1:be[p+1]? =some ((n+p:Nat):Int)
 s1:si[p+1]? =some 0
 b2:be[r-n]? =some ((n+p:Nat):Int)
 s2:si[r-n]? =some 1
theorem jx.shift{nd nd' nd2:List Node}{be be' be2 si si' si2 se se' se2:List Int}{n m p r k:Nat}(h:jx nd be si se (n+m) p r k)(hr:n+m<=r)(hp:p+1<nd.length)(tK:r-(n+m)<nd.length)
  (l1:nd'.length=m) (l2:be'.length=m) (l3:si'.length=m) (l4:se'.length=m) (b1:be.length=nd.length) (b2:si.length=nd.length) (b3:se.length=nd.length):
  jx (nd'++(nd++nd2)) (be'++(be++be2)) (si'++(si++si2)) (se'++(se++se2)) n (m+p) r k:=by
 have er:r-n=m+(r-(n+m)):=by omega
 constructor
 ·rw[m9 l1,ox U (by omega)];exact h.node
 ·rw[m9 l4,ox b3 (by omega)];exact h.sec
 ·rw[pD,m9 l2,ox b1 hp,<-pD];exact h.b1
 ·rw[pD,m9 l3,ox b2 hp];exact h.s1
 ·rw[er,m9 l2,ox b1 tK,<-pD];exact h.b2
 ·rw[er,m9 l3,ox b2 tK];exact h.s2
def kd:Point->Nat
 | .leaf=>0
 | .tensor _ _=>2
 | .par _ _=>3
theorem IB{A B:Formula}(hA:multiplicative A=true)(hB:multiplicative B=true)(n:Nat)(b sd:Int)(k:Nat):
  jx ((k,[])::(enc A++enc B)) (b::(dg (n+1) n A++dg (n+1+nodes A) n B)) (sd::(dh 0 A++dh 1 B)) (((n+1+nodes A:Nat):Int)::(dG (n+1) A++dG (n+1+nodes A) B)) n 0 (n+1+nodes A) k:=by
 have pA:=fz A;have e:n+1+nodes A-n=(nodes A+0)+1:=by omega
 constructor
 ·rfl
 ·rfl
 ·show(dg (n+1) n A++_)[0]? =_
  rw[ox (gu A _ _ hA) pA];exact(ou A _ _ 0 hA).1
 ·show(dh 0 A++_)[0]? =_
  rw[ox (hX A _ hA) pA];exact(ou A 0 0 _ hA).2
 ·rw[e,fZ]
  exact(m9 (i:=0) (gu A _ _ hA)).trans (ou B _ _ 0 hB).1
 ·rw[e,fZ]
  exact(m9 (i:=0) (hX A _ hA)).trans (ou B 0 0 _ hB).2
theorem vv:∀(A:Formula) (n:Nat) (b sd:Int) (p l r:Nat),multiplicative A=true->((pointsOf n A)[p]? =some (.tensor l r)->jx (enc A) (dg n b A) (dh sd A) (dG n A) n p r 2)/\
  ((pointsOf n A)[p]? =some (.par l r)->jx (enc A) (dg n b A) (dh sd A) (dG n A) n p r 3)
 | .atom _ _,n,b,sd,p,l,r,_=>by constructor<;>intro h<;>cases p<;>simp[pointsOf]at h
 | .tensor A B,n,b,sd,p,l,r,hm=>by
  have Rb:=hm;simp only[multiplicative,bb]at hm;have key:∀k,((pointsOf (n+1) A++pointsOf (n+1+nodes A) B)[p-1]? =some (.tensor l r)/\ k=2\/(pointsOf (n+1) A++pointsOf (n+1+nodes A) B)[p-1]? =some (.par l r)/\ k=3)->0<p->
    jx (enc (.tensor A B)) (dg n b (.tensor A B)) (dh sd (.tensor A B)) (dG n (.tensor A B)) n p r k:=by
   intro k h hp;by_cases hpA:p-1<nodes A
   ·rw[dQ (by rw[dq A _ hm.1];exact hpA)]at h
    have ks:=kids A (n+1) (p-1) l r hm.1 (by rcases h with h|h;exact .inl h.1;exact .inr h.1);have ih:=vv A (n+1) n 0 (p-1) l r hm.1;have j:jx (enc A) (dg (n+1) n A) (dh 0 A) (dG (n+1) A) (n+1) (p-1) r k:=by
     rcases h with⟨h,rfl⟩|⟨h,rfl⟩
     ·exact ih.1 h
     ·exact ih.2 h
    have:=j.shift (nd':=[(2,[])]) (nd2:=enc B) (be':=[b]) (be2:=dg (n+1+nodes A) n B) (si':=[sd]) (si2:=dh 1 B) (se':=[((n+1+nodes A:Nat):Int)]) (se2:=dG (n+1+nodes A) B)
     (by omega) (by rw[bJ];omega) (by rw[bJ];omega) U U U U (by rw[gu A _ _ hm.1,bJ]) (by rw[hX A _ hm.1,bJ]) (by rw[gG A _ hm.1,bJ])
    rw[show 1+(p-1)=p by omega]at this;exact this
   ·rw[eM (by rw[dq A _ hm.1];omega),dq A _ hm.1]at h
    have ks:=kids B (n+1+nodes A) (p-1-nodes A) l r hm.2 (by rcases h with h|h;exact .inl h.1;exact .inr h.1);have ih:=vv B (n+1+nodes A) n 1 (p-1-nodes A) l r hm.2;have j:jx (enc B) (dg (n+1+nodes A) n B) (dh 1 B) (dG (n+1+nodes A) B) (n+(1+nodes A)) (p-1-nodes A) r k:=by
     rw[<-pD];rcases h with⟨h,rfl⟩|⟨h,rfl⟩
     ·exact ih.1 h
     ·exact ih.2 h
    have:=j.shift (nd':=(2,[])::enc A) (nd2:=[]) (be':=b::dg (n+1) n A) (be2:=[]) (si':=sd::dh 0 A) (si2:=[]) (se':=((n+1+nodes A:Nat):Int)::dG (n+1) A) (se2:=[])
     (by omega) (by rw[bJ];omega) (by rw[bJ];omega) (by rw[aX,bJ];omega) (by rw[aX,gu A _ _ hm.1];omega) (by rw[aX,hX A _ hm.1];omega) (by rw[aX,gG A _ hm.1];omega)
     (by rw[gu B _ _ hm.2,bJ]) (by rw[hX B _ hm.2,bJ]) (by rw[gG B _ hm.2,bJ])
    rw[show 1+nodes A+(p-1-nodes A)=p by omega]at this;simp only[iD,lF]at this;exact this
  cases p with
  |zero=>
   constructor
   ·intro h
    simp only[pointsOf,xU,uV,Point.tensor.injEq]at h;obtain⟨rfl,rfl⟩:=h;exact IB hm.1 hm.2 n b sd 2
   ·intro h
    simp[pointsOf]at h
  |succ p=>
   constructor
   ·intro h;exact key 2 (.inl ⟨by simpa [pointsOf]using h,U⟩) (by omega)
   ·intro h;exact key 3 (.inr ⟨by simpa [pointsOf]using h,U⟩) (by omega)
 | .par A B,n,b,sd,p,l,r,hm=>by
  have Rb:=hm;simp only[multiplicative,bb]at hm;have key:∀k,((pointsOf (n+1) A++pointsOf (n+1+nodes A) B)[p-1]? =some (.tensor l r)/\ k=2\/(pointsOf (n+1) A++pointsOf (n+1+nodes A) B)[p-1]? =some (.par l r)/\ k=3)->0<p->
    jx (enc (.par A B)) (dg n b (.par A B)) (dh sd (.par A B)) (dG n (.par A B)) n p r k:=by
   intro k h hp;by_cases hpA:p-1<nodes A
   ·rw[dQ (by rw[dq A _ hm.1];exact hpA)]at h
    have ks:=kids A (n+1) (p-1) l r hm.1 (by rcases h with h|h;exact .inl h.1;exact .inr h.1);have ih:=vv A (n+1) n 0 (p-1) l r hm.1;have j:jx (enc A) (dg (n+1) n A) (dh 0 A) (dG (n+1) A) (n+1) (p-1) r k:=by
     rcases h with⟨h,rfl⟩|⟨h,rfl⟩
     ·exact ih.1 h
     ·exact ih.2 h
    have:=j.shift (nd':=[(3,[])]) (nd2:=enc B) (be':=[b]) (be2:=dg (n+1+nodes A) n B) (si':=[sd]) (si2:=dh 1 B) (se':=[((n+1+nodes A:Nat):Int)]) (se2:=dG (n+1+nodes A) B)
     (by omega) (by rw[bJ];omega) (by rw[bJ];omega) U U U U (by rw[gu A _ _ hm.1,bJ]) (by rw[hX A _ hm.1,bJ]) (by rw[gG A _ hm.1,bJ])
    rw[show 1+(p-1)=p by omega]at this;exact this
   ·rw[eM (by rw[dq A _ hm.1];omega),dq A _ hm.1]at h
    have ks:=kids B (n+1+nodes A) (p-1-nodes A) l r hm.2 (by rcases h with h|h;exact .inl h.1;exact .inr h.1);have ih:=vv B (n+1+nodes A) n 1 (p-1-nodes A) l r hm.2;have j:jx (enc B) (dg (n+1+nodes A) n B) (dh 1 B) (dG (n+1+nodes A) B) (n+(1+nodes A)) (p-1-nodes A) r k:=by
     rw[<-pD];rcases h with⟨h,rfl⟩|⟨h,rfl⟩
     ·exact ih.1 h
     ·exact ih.2 h
    have:=j.shift (nd':=(3,[])::enc A) (nd2:=[]) (be':=b::dg (n+1) n A) (be2:=[]) (si':=sd::dh 0 A) (si2:=[]) (se':=((n+1+nodes A:Nat):Int)::dG (n+1) A) (se2:=[])
     (by omega) (by rw[bJ];omega) (by rw[bJ];omega) (by rw[aX,bJ];omega) (by rw[aX,gu A _ _ hm.1];omega) (by rw[aX,hX A _ hm.1];omega) (by rw[aX,gG A _ hm.1];omega)
     (by rw[gu B _ _ hm.2,bJ]) (by rw[hX B _ hm.2,bJ]) (by rw[gG B _ hm.2,bJ])
    rw[show 1+nodes A+(p-1-nodes A)=p by omega]at this;simp only[iD,lF]at this;exact this
  cases p with
  |zero=>
   constructor
   ·intro h
    simp[pointsOf]at h
   ·intro h
    simp only[pointsOf,xU,uV,Point.par.injEq]at h;obtain⟨rfl,rfl⟩:=h;exact IB hm.1 hm.2 n b sd 3
  |succ p=>
   constructor
   ·intro h;exact key 2 (.inl ⟨by simpa [pointsOf]using h,U⟩) (by omega)
   ·intro h;exact key 3 (.inr ⟨by simpa [pointsOf]using h,U⟩) (by omega)
 | .wth A B,_,_,_,_,_,_,h| .plus A B,_,_,_,_,_,_,h| .ofc A,_,_,_,_,_,_,h| .whn A,_,_,_,_,_,_,h=>by simp[multiplicative]at h
theorem B4:∀(fs:List Formula) (n:Nat),eO fs->(f_ n fs).length=bf fs
 |[],n,_=>rfl
 |A::r,n,h=>by rw[f_,bL,gu A _ _ (h A (by simp)),B4 r _ λB hB=>h B (by simp[hB])];rfl
theorem B5:∀(fs:List Formula),eO fs->(iK fs).length=bf fs
 |[],_=>rfl
 |A::r,h=>by rw[iK,bL,hX A _ (h A (by simp)),B5 r λB hB=>h B (by simp[hB])];rfl
theorem B6:∀(fs:List Formula) (n:Nat),eO fs->(i6 n fs).length=bf fs
 |[],n,_=>rfl
 |A::r,n,h=>by rw[i6,bL,gG A _ (h A (by simp)),B6 r _ λB hB=>h B (by simp[hB])];rfl
theorem B7:∀(fs:List Formula) (n:Nat),(lN n fs).length=bf fs
 |[],n=>rfl
 |A::r,n=>by rw[lN,bL,sU,pE,B7 r];rfl
theorem m_:∀(fs:List Formula),(fs.flatMap enc).length=bf fs
 |[]=>rfl
 |A::r=>by rw[gE,bL,bJ,m_ r];rfl
theorem yB:∀(fs:List Formula) (n p l r k:Nat),eO fs->((pointsFrom n fs)[p]? =some (.tensor l r)/\ k=2\/(pointsFrom n fs)[p]? =some (.par l r)/\ k=3)->
  jx (fs.flatMap enc) (f_ n fs) (iK fs) (i6 n fs) n p r k
 |[],n,p,l,r,k,_,h=>by simp[pointsFrom]at h
 |A::fs,n,p,l,r,k,hm,h=>by
  have hA:=hm A (by simp);have hr:eO fs:=λB hB=>hm B (by simp[hB]);simp only[pointsFrom]at h;by_cases hp:p<nodes A
  ·rw[dQ (by rw[dq A _ hA];exact hp)]at h
   have ks:=kids A n p l r hA (by rcases h with h|h;exact .inl h.1;exact .inr h.1);have ih:=vv A n (-1) (-1) p l r hA;have j:jx (enc A) (dg n (-1) A) (dh (-1) A) (dG n A) (n+0) p r k:=by
    rcases h with⟨h,rfl⟩|⟨h,rfl⟩
    ·exact ih.1 h
    ·exact ih.2 h
   have:=j.shift (nd':=[]) (nd2:=fs.flatMap enc) (be':=[]) (be2:=f_ (n+nodes A) fs) (si':=[]) (si2:=iK fs) (se':=[]) (se2:=i6 (n+nodes A) fs)
    (by omega) (by rw[bJ];omega) (by rw[bJ];omega) U U U U (by rw[gu A _ _ hA,bJ]) (by rw[hX A _ hA,bJ]) (by rw[gG A _ hA,bJ])
   rw[ft]at this;exact this
  ·rw[eM (by rw[dq A _ hA];omega),dq A _ hA]at h
   have ks:=lK fs (n+nodes A) (p-nodes A) l r hr (by rcases h with h|h;exact .inl h.1;exact .inr h.1);have j:=yB fs (n+nodes A) (p-nodes A) l r k hr h;have:=j.shift (nd':=enc A) (nd2:=[]) (be':=dg n (-1) A) (be2:=[]) (si':=dh (-1) A) (si2:=[]) (se':=dG n A) (se2:=[])
    (by omega) (by rw[m_];omega) (by rw[m_];omega) (bJ A) (gu A _ _ hA) (hX A _ hA) (gG A _ hA)
    (by rw[B4 fs _ hr,m_]) (by rw[B5 fs hr,m_]) (by rw[B6 fs _ hr,m_])
   rw[show nodes A+(p-nodes A)=p by omega]at this;simp only[iD]at this;exact this
theorem B8:∀(A:Formula) (n p:Nat),multiplicative A=true->(pointsOf n A)[p]? =some .leaf->∃x,(enc A)[p]? =some x/\ x.1<2
 | .atom b a,n,p,_,h=>by
  cases p with
  |zero=>exact⟨_,U,by cases b<;>simp⟩
  |succ p=>simp[pointsOf]at h
 | .tensor A B,n,p,hm,h| .par A B,n,p,hm,h=>by
  simp only[multiplicative,bb]at hm;cases p with
  |zero=>simp[pointsOf]at h
  |succ p=>
   simp only[pointsOf,fZ]at h;simp only[enc,fZ];by_cases hp:p<nodes A
   ·rw[dQ (by rw[dq A _ hm.1];exact hp)]at h
    rw[dQ (by rw[bJ];exact hp)];exact B8 A _ p hm.1 h
   ·rw[eM (by rw[dq A _ hm.1];omega),dq A _ hm.1]at h
    rw[eM (by rw[bJ];omega),bJ];exact B8 B _ _ hm.2 h
 | .wth A B,_,_,h,_| .plus A B,_,_,h,_| .ofc A,_,_,h,_| .whn A,_,_,h,_=>by simp[multiplicative]at h
theorem IC:∀(fs:List Formula) (n p:Nat),eO fs->(pointsFrom n fs)[p]? =some .leaf->∃x,(fs.flatMap enc)[p]? =some x/\ x.1<2
 |[],n,p,_,h=>by simp[pointsFrom]at h
 |A::fs,n,p,hm,h=>by
  have hA:=hm A (by simp);simp only[pointsFrom]at h;rw[gE];by_cases hp:p<nodes A
  ·rw[dQ (by rw[dq A _ hA];exact hp)]at h
   rw[dQ (by rw[bJ];exact hp)];exact B8 A _ p hA h
  ·rw[eM (by rw[dq A _ hA];omega),dq A _ hA]at h
   rw[eM (by rw[bJ];omega),bJ];exact IC fs _ _ (λB hB=>hm B (by simp[hB])) h
theorem B9:∀(fs:List Formula) (n x:Nat),eO fs->x∈rootsFrom n fs->n<=x/\ (f_ n fs)[x-n]? =some (-1)/\ (lN n fs)[x-n]? =some (x:Int)
 |[],n,x,_,h=>by simp[rootsFrom]at h
 |A::fs,n,x,hm,h=>by
  have hA:=hm A (by simp);have pA:=fz A;simp only[rootsFrom,a_]at h;rcases h with rfl|h
  ·refine⟨aM _,?_,?_⟩
   ·rw[qN,f_,ox (gu A _ _ hA) pA];exact(ou A _ _ 0 hA).1
   ·rw[qN,lN,dQ (by simp;exact pA),n0 (by simp;exact pA)]
  ·obtain⟨h1,h2,h3⟩:=B9 fs (n+nodes A) x (λB hB=>hm B (by simp[hB])) h
   have e:x-n=nodes A+(x-(n+nodes A)):=by omega
   refine⟨by omega,?_,?_⟩
   ·rw[e,f_,m9 (gu A _ _ hA)];exact h2
   ·rw[e,lN,m9 (by simp)];exact h3
def i7:List Point->Nat->List Nat
 |[],_=>[]
 | .leaf::r,k=>i7 r (k+1)
 | .tensor _ _::r,k| .par _ _::r,k=>k::i7 r (k+1)
def Rc(x:Nat×Point):Option Nat:=if isJunction x.2=true then some x.1 else none
theorem ID:∀(ps:List Point) (k:Nat),((List.range' k ps.length).zip ps).filterMap Rc=i7 ps k
 |[],k=>rfl
 |p::r,k=>by rw[aX,qL,sR,iF,ID r (k+1)];cases p<;>rfl
theorem B_(s:Net):junctions s=i7 (points s) 0:=by unfold junctions;rw[oh,<-ID];rfl
theorem IE:∀(ps:List Point) (k:Nat),(i7 ps k).length=fP ps
 |[],k=>rfl
 |p::r,k=>by cases p<;>simp only[i7,fP,aX,IE r]<;>omega
theorem IF:∀(ps:List Point) (k x:Nat),x∈i7 ps k->k<=x
 |[],k,x,h=>by simp[i7]at h
 |p::r,k,x,h=>by
  have ih:=IF r (k+1) x;cases p with
  |leaf=>have:=ih h;omega
  |tensor _ _|par _ _=>
   simp only[i7,a_]at h;rcases h with rfl|h
   ·omega
   ·have:=ih h;omega
theorem B':∀(ps:List Point) (k:Nat),(i7 ps k).Nodup
 |[],k=>nY
 |p::r,k=>by
  cases p with
  |leaf=>exact B' r (k+1)
  |tensor _ _|par _ _=>rw[i7,fq];exact⟨λh=>by have:=IF r _ _ h;omega,B' r (k+1)⟩
theorem yC:∀(ps:List Point) (j k p:Nat) (x:Point),ps[p]? =some x->Ra x=true->∃i,(f9 ps j)[p]? =some ((j+i:Nat):Int)/\ (i7 ps k)[i]? =some (k+p)
 |[],j,k,p,x,h,_=>by simp at h
 |y::r,j,k,0,x,h,hx=>by
  have:y=x:=by simpa using h
  subst this;cases y with
  |leaf=>cases hx
  |tensor _ _|par _ _=>exact⟨0,U,U⟩
 |y::r,j,k,p+1,x,h,hx=>by
  have h:r[p]? =some x:=by simpa using h
  cases y with
  |leaf=>obtain⟨i,h1,h2⟩:=yC r j (k+1) p x h hx;exact⟨i,by simpa [f9]using h1,by rw[i7,h2];congr 1;omega⟩
  |tensor _ _|par _ _=>
   obtain⟨i,h1,h2⟩:=yC r (j+1) (k+1) p x h hx;refine⟨i+1,?_,?_⟩
   ·rw[f9,fZ,h1,show j+1+i=j+(i+1) by omega]
   ·rw[i7,fZ,h2];congr 1;omega
theorem IG:∀(ps:List Point) (j:Nat),(f9 ps j).length=ps.length
 |[],j=>rfl
 |p::r,j=>by cases p<;>simp[f9,IG r]
theorem IH:∀{l:List Nat} {v:List Bool} {i p:Nat} {b:Bool},l.Nodup->l[i]? =some p->v[i]? =some b->switchAt (l.zip v) p=b
 |[],v,i,p,b,_,h,_|a::l,[],i,p,b,_,_,h=>by simp at h
 |a::l,c::v,0,p,b,nd,h1,h2=>by
  have e1:a=p:=by simpa using h1
  have e2:c=b:=by simpa using h2
  subst e1 e2;unfold switchAt;rw[sR,Bl (by simp)];rfl
 |a::l,c::v,i+1,p,b,nd,h1,h2=>by
  obtain⟨n1,n2⟩:=fq.mp nd;have e1:l[i]? =some p:=by simpa using h1
  have e2:v[i]? =some b:=by simpa using h2
  have ne:¬((a==p)=true):=by
   intro e;have:a=p:=by simpa using e
   subst this;exact n1 (bC e1)
  have ih:=IH n2 e1 e2;unfold switchAt at ih⊢;have ne':(a==p)=false:=by simpa using ne
  rw[sR,n6];dsimp only;rw[ne'];exact ih
def gH:List Nat->List Int->List Int
 |a::b::r,t=>gH r ((t.set a b).set b a)
 |_,t=>t
theorem Ca:∀(l:List Nat) (t:List Int),(gH l t).length=t.length
 |[],t|[a],t=>rfl
 |a::b::r,t=>by rw[gH,Ca r];simp
theorem yD:∀(l:List Nat) (t:List Int) (x:Nat),x∉l->(gH l t)[x]? =t[x]?
 |[],t,x,_|[a],t,x,_=>rfl
 |a::b::r,t,x,h=>by have h1:x≠a:=λe=>h (by simp[e]);have h2:x≠b:=λe=>h (by simp[e]);rw[gH,yD r _ x (λc=>h (by simp[c])),mU (λe=>h2 e.symm),mU (λe=>h1 e.symm)]
theorem II:∀(l:List Nat) (t:List Int) (x y:Nat),l.Nodup->(∀z∈l,z<t.length)->(x,Stand.cut y)∈cutRoots l->(gH l t)[x]? =some (y:Int)
 |[],t,x,y,_,_,h|[a],t,x,y,_,_,h=>by simp[cutRoots]at h
 |a::b::r,t,x,y,nd,hl,h=>by
  obtain⟨n1,nd⟩:=fq.mp nd;obtain⟨n2,nd⟩:=fq.mp nd;have g_:a≠b:=λe=>n1 (by simp[e]);have Rf:a∉r:=λc=>n1 (by simp[c]);have la:=hl a (by simp);have lb:=hl b (by simp);simp only[cutRoots,a_]at h;rw[gH];rcases h with h|h|h
  ·cases h
   rw[yD r _ _ Rf,mU (λe=>g_ e.symm),n0 la]
  ·cases h
   rw[yD r _ _ n2,n0 (by simp;exact lb)]
  ·exact II r _ x y nd (λz hz=>by simp;exact hl z (by simp[hz])) h
def fR(lp:List Nat):List (Nat×Nat)->List Int->List Int
 |[],t=>t
 |x::r,t=>fR lp r ((t.set (lp.getD x.1 0) (lp.getD x.2 0)).set (lp.getD x.2 0) (lp.getD x.1 0))
theorem Cb(lp:List Nat):∀(l:List (Nat×Nat)) (t:List Int),(fR lp l t).length=t.length
 |[],t=>rfl
 |x::r,t=>by rw[fR,Cb lp r];simp
theorem Cc{lp:List Nat}(nd:lp.Nodup):∀(l:List (Nat×Nat)) (t:List Int) (i:Nat),(∀z∈numsOf l,z<lp.length)->i<lp.length->i∉numsOf l->(fR lp l t)[lp.getD i 0]? =t[lp.getD i 0]?
 |[],t,i,_,_,_=>rfl
 |x::r,t,i,hl,hi,h=>by
  have hn:numsOf (x::r)=x.1::x.2::numsOf r:=rfl;rw[hn]at hl h;have ne:∀j,j<lp.length->i≠j->lp.getD j 0≠lp.getD i 0:=by intro j hj iH e;rw[eX (br hj),eX (br hi)]at e;exact iH ((xW nd).mp e).symm
  have h1:=ne x.1 (hl _ (by simp)) (λe=>h (by simp[e]));have h2:=ne x.2 (hl _ (by simp)) (λe=>h (by simp[e]));rw[fR,Cc nd r _ i (λz hz=>hl z (by simp[hz])) hi (λc=>h (by simp[c])),mU h2,mU h1]
theorem IJ{lp:List Nat}(nd:lp.Nodup):∀(l:List (Nat×Nat)) (t:List Int) (x:Nat×Nat),(numsOf l).Nodup->(∀z∈numsOf l,z<lp.length)->(∀q∈lp,q<t.length)->x∈l->
  (fR lp l t)[lp.getD x.1 0]? =some (lp.getD x.2 0:Int)/\ (fR lp l t)[lp.getD x.2 0]? =some (lp.getD x.1 0:Int)
 |[],t,x,_,_,_,h=>by simp at h
 |y::r,t,x,nn,hl,ht,h=>by
  have hn:numsOf (y::r)=y.1::y.2::numsOf r:=rfl;rw[hn]at hl nn;obtain⟨n1,nn⟩:=fq.mp nn;obtain⟨n2,nn⟩:=fq.mp nn;have h_:y.1<lp.length:=hl _ (by simp);have Cd:y.2<lp.length:=hl _ (by simp);have Rg:y.1≠y.2:=λe=>n1 (by simp[e]);have aU:∀j,j<lp.length->lp.getD j 0<t.length:=λj hj=>by rw[eX (br hj)];exact ht _ (Bp hj)
  rcases a_.mp h with rfl|h
  ·have ne:lp.getD x.2 0≠lp.getD x.1 0:=by
    intro e;rw[eX (br Cd),eX (br h_)]at e;exact Rg ((xW nd).mp e).symm
   rw[fR];constructor
   ·rw[Cc nd r _ x.1 (λz hz=>hl z (by simp[hz])) h_ (λc=>n1 (by simp[c])),mU ne,n0 (aU _ h_)]
   ·rw[Cc nd r _ x.2 (λz hz=>hl z (by simp[hz])) Cd n2,n0 (by simp only[sU];exact aU _ Cd)]
  ·rw[fR]
   exact IJ nd r _ x nn (λz hz=>hl z (by simp[hz])) (λq hq=>by simp;exact ht q hq) h
structure Arr(s:Net)(S:PA):Prop where
 ln:S.nodes.length=(points s).length
 lb:S.below.length=(points s).length
 ls:S.sides.length=(points s).length
 lc:S.seconds.length=(points s).length
 lw:S.switches.length=(points s).length
 lp:S.partners.length=(points s).length
 lt:S.turns.length=(points s).length
 jc:S.jc=(junctions s).length
 nd:S.nodes=(formulas s).flatMap enc
 leaf:∀{p:Nat},(points s)[p]? =some .leaf->(∃x,S.nodes[p]? =some x/\ x.1<2)/\ S.partners[p]? =some (partner s p:Int)
 lO:∀{p l r k:Nat},((points s)[p]? =some (.tensor l r)/\ k=2\/(points s)[p]? =some (.par l r)/\ k=3)->
  S.nodes[p]? =some (k,[])/\ l=p+1/\ S.seconds[p]? =some (r:Int)/\ ∃i:Nat,S.switches[p]? =some (i:Int)/\ (junctions s)[i]? =some p
 concl:∀{p:Nat},p<(points s).length->standOf (stands s) p= .concl->S.below[p]? =some (-1)/\ S.turns[p]? =some (p:Int)
 cut:∀{p q:Nat},p<(points s).length->standOf (stands s) p= .cut q->S.below[p]? =some (-1)/\ S.turns[p]? =some (q:Int)
 d9:∀{p j q:Nat} {b:Bool},standOf (stands s) p= .tensor j q b->S.below[p]? =some (j:Int)/\ S.sides[p]? =some (if b=true then 1 else 0)/\ ∃l r,(points s)[j]? =some (.tensor l r)/\ (if b=true then p=r/\ q=l else p=l/\ q=r)
 par:∀{p j:Nat} {b:Bool},standOf (stands s) p= .par j b->S.below[p]? =some (j:Int)/\ S.sides[p]? =some (if b=true then 1 else 0)/\ ∃l r,(points s)[j]? =some (.par l r)
def arrOf(s:Net)(links:List (Nat×Nat)):PA:=
 let S:=iJ PA.empty (formulas s)
 {S with turns:=gH (eV s) S.turns,partners:=fR (leafPoints (points s)) links S.partners}
theorem vw:∀(A:Formula) (n x:Nat),multiplicative A=true->n<x->x<n+nodes A->x∈keys (cF n (pointsOf n A))
 | .atom _ _,n,x,_,h1,h2=>by simp[nodes]at h2;omega
 | .tensor A B,n,x,h,h1,h2=>by
  simp only[multiplicative,bb]at h;simp only[nodes]at h2;have e:keys (cF n (pointsOf n (.tensor A B)))=(n+1)::(n+1+nodes A)::(keys (cF (n+1) (pointsOf (n+1) A))++keys (cF (n+1+nodes A) (pointsOf (n+1+nodes A) B))):=by rw[pointsOf,yp,tF,dq A _ h.1,lJ,lJ];rfl
  rw[e];simp only[a_,cN];by_cases c1:x=n+1
  ·exact .inl c1
  ·by_cases c2:x=n+1+nodes A
   ·exact .inr (.inl c2)
   ·by_cases c3:x<n+1+nodes A
    ·exact .inr (.inr (.inl (vw A (n+1) x h.1 (by omega) (by omega))))
    ·exact .inr (.inr (.inr (vw B (n+1+nodes A) x h.2 (by omega) (by omega))))
 | .par A B,n,x,h,h1,h2=>by
  simp only[multiplicative,bb]at h;simp only[nodes]at h2;have e:keys (cF n (pointsOf n (.par A B)))=(n+1)::(n+1+nodes A)::(keys (cF (n+1) (pointsOf (n+1) A))++keys (cF (n+1+nodes A) (pointsOf (n+1+nodes A) B))):=by rw[pointsOf,yp,tF,dq A _ h.1,lJ,lJ];rfl
  rw[e];simp only[a_,cN];by_cases c1:x=n+1
  ·exact .inl c1
  ·by_cases c2:x=n+1+nodes A
   ·exact .inr (.inl c2)
   ·by_cases c3:x<n+1+nodes A
    ·exact .inr (.inr (.inl (vw A (n+1) x h.1 (by omega) (by omega))))
    ·exact .inr (.inr (.inr (vw B (n+1+nodes A) x h.2 (by omega) (by omega))))
 | .wth A B,_,_,h,_,_| .plus A B,_,_,h,_,_| .ofc A,_,_,h,_,_| .whn A,_,_,h,_,_=>by simp[multiplicative]at h
theorem IK:∀(fs:List Formula) (n x:Nat),eO fs->n<=x->x<n+bf fs->x∈rootsFrom n fs\/x∈keys (cF n (pointsFrom n fs))
 |[],n,x,_,h1,h2=>by simp[bf]at h2;omega
 |A::r,n,x,h,h1,h2=>by
  have hA:=h A (by simp);have e:keys (cF n (pointsFrom n (A::r)))=keys (cF n (pointsOf n A))++keys (cF (n+nodes A) (pointsFrom (n+nodes A) r)):=by rw[pointsFrom,tF,dq A n hA,lJ]
  rw[e];simp only[rootsFrom,a_,cN];simp only[bf]at h2;by_cases c1:x=n
  ·exact .inl (.inl c1)
  ·by_cases c2:x<n+nodes A
   ·exact .inr (.inl (vw A n x hA (by omega) c2))
   ·rcases IK r (n+nodes A) x (λB hB=>h B (by simp[hB])) (by omega) (by omega)with c|c
    ·exact .inl (.inr c)
    ·exact .inr (.inr c)
theorem Rh{s:Net}(hm:eO (formulas s)){p:Nat}(hp:p<(points s).length)(h:standOf (stands s) p= .concl):p∈dR s/\ p∉eV s:=by
 have hn:(points s).length=bf (formulas s):=jV _ _ hm;have hk:p∉keys (stands s):=by
  intro c;obtain⟨z,hz,e⟩:=c9.mp c;obtain⟨q,v⟩:=z;have e:q=p:=e;subst e;have:=ot (oq hm) hz;rw[h]at this;subst this;unfold stands at hz;rcases cN.mp hz with hz|hz
  ·rw[tE]at hz
   obtain⟨j,x,_,hy⟩:=BU hz;cases x<;>simp[iI]at hy
  ·obtain⟨y,h1,_⟩:=vn _ _ _ hz
   cases h1
 rw[BV]at hk;have h1:p∉keys (cF 0 (points s)):=λc=>hk (mT _ c);have h2:p∉eV s:=λc=>hk (iY _ c);refine⟨?_,h2⟩;rcases IK (formulas s) 0 p hm (by omega) (by omega)with c|c
 ·exact c
 ·exact absurd c h1
theorem Ri{s:Net}(g:Good s){links:List (Nat×Nat)}(eY:s.to=partnersOf s.to.length links)(aU:∀x∈links,x.1<x.2)(gb:(numsOf links).Nodup)(gw:∀z∈numsOf links,z<s.to.length)
  (vx:∀i,i<s.to.length->i∈numsOf links):Arr s (arrOf s links):=by
 have hn:(points s).length=bf (formulas s):=jV _ _ g.mul;have e:=yA (formulas s) PA.empty g.mul ⟨U,U⟩;have e0:PA.empty.nodes.length=0:=rfl;rw[e0]at e;simp only[PA.empty,mS,ft]at e;have eA:arrOf s links=
   {nodes:=(formulas s).flatMap enc,below:=f_ 0 (formulas s),sides:=iK (formulas s),seconds:=i6 0 (formulas s),switches:=f9 (pointsFrom 0 (formulas s)) 0,
    partners:=fR (leafPoints (points s)) links (List.replicate (bf (formulas s)) (-1)),turns:=gH (eV s) (lN 0 (formulas s)),jc:=fP (pointsFrom 0 (formulas s))}:=by
  unfold arrOf PA.empty;rw[e]
 have lpn:(leafPoints (points s)).Nodup:=by rw[gZ];exact pL _ _
 have cutlt:∀z∈eV s,z<(lN 0 (formulas s)).length:=λz hz=>by have:=m7 (formulas s) 0 z (vm s z hz);rw[B7];omega
 have cutnd:(eV s).Nodup:=(yq _ _).sublist (Bm _ _);rw[eA];constructor
 ·show _=_;rw[m_,hn]
 ·show _=_;rw[B4 _ _ g.mul,hn]
 ·show _=_;rw[B5 _ g.mul,hn]
 ·show _=_;rw[B6 _ _ g.mul,hn]
 ·show _=_;rw[IG];rfl
 ·show _=_;rw[Cb,pE,hn]
 ·show _=_;rw[Ca,B7,hn]
 ·show _=_;rw[B_,IE];rfl
 ·rfl
 ·intro p hp
  refine⟨IC (formulas s) 0 p g.mul hp,?_⟩;obtain⟨i,j,h1,h2,h3,h4⟩:=g.pair hp;have hi:i<s.to.length:=(cP.mp h2).1;obtain⟨x,hx,BR⟩:=BQ (vx i hi);have h2l:x.2<s.to.length:=gw x.2 (gn.mpr ⟨x,hx,by simp⟩);obtain⟨p1,p2⟩:=vh (n:=s.to.length) gb hx (aU x hx) h2l;rw[<-eY]at p1 p2;have J:=IJ lpn links (List.replicate (bf (formulas s)) (-1)) x gb (λz hz=>by rw[<-g.len];exact gw z hz) (λq hq=>by rw[gZ]at hq;have:=yu _ _ _ hq;rw[pE];omega) hx
  show(fR _ _ _)[p]? =some (partner s p:Int);rcases BR with rfl|rfl
  ·have ej:j=x.2:=by rw[p1]at h2;exact(ay h2).symm
   subst ej;rw[<-eX (d:=0) h1,J.1,eX h1,eX h4]
  ·have ej:j=x.1:=by rw[p2]at h2;exact(ay h2).symm
   subst ej;rw[<-eX (d:=0) h1,J.2,eX h1,eX h4]
 ·intro p l r k h
  have j:=yB (formulas s) 0 p l r k g.mul h;have ks:=lK (formulas s) 0 p l r g.mul (by rcases h with h|h;exact .inl h.1;exact .inr h.1);refine⟨j.node,by omega,j.sec,?_⟩;obtain⟨i,h1,h2⟩:∃i,(f9 (pointsFrom 0 (formulas s)) 0)[p]? =some ((0+i:Nat):Int)/\ (i7 (pointsFrom 0 (formulas s)) 0)[i]? =some (0+p):=by
   rcases h with⟨h,_⟩|⟨h,_⟩
   ·exact yC _ 0 0 p _ h U
   ·exact yC _ 0 0 p _ h U
  rw[ft]at h1 h2;exact⟨i,h1,by rw[B_];exact h2⟩
 ·intro p hp hc
  obtain⟨h1,h2⟩:=Rh g.mul hp hc;obtain⟨_,r1,r2⟩:=B9 (formulas s) 0 p g.mul h1;refine⟨r1,?_⟩;show(gH _ _)[p]? =_;rw[yD _ _ _ h2];exact r2
 ·intro p q hp hc
  have b8:standOf (stands s) p≠ .concl:=by rw[hc];intro z;cases z
  rcases yt g.mul b8 with⟨j,l,r,_,h⟩|⟨j,l,r,_,h⟩|⟨q',h1,h2,h3⟩
  ·rcases h with⟨_,h⟩|⟨_,h⟩<;>rw[hc]at h<;>cases h
  ·rcases h with⟨_,h⟩|⟨_,h⟩<;>rw[hc]at h<;>cases h
  ·rw[hc]at h1
   cases h1;have Rj:p∈eV s:=by have:p∈keys (cutRoots (eV s)):=c9.mpr ⟨_,h3,U⟩;rwa[vj _ (vk s)]at this
   obtain⟨_,r1,r2⟩:=B9 (formulas s) 0 p g.mul (vm s p Rj);exact⟨r1,II _ _ _ _ cutnd cutlt h3⟩
 ·intro p j q b hc
  have b8:standOf (stands s) p≠ .concl:=by rw[hc];intro z;cases z
  rcases yt g.mul b8 with⟨j',l,r,hj,h⟩|⟨j',l,r,_,h⟩|⟨q',h1,h2,h3⟩
  ·have J:=yB (formulas s) 0 j' l r 2 g.mul (.inl ⟨hj,U⟩)
   have ks:=lK (formulas s) 0 j' l r g.mul (.inl hj);rcases h with⟨e1,h⟩|⟨e1,h⟩
   ·rw[hc]at h;cases h
    have el:p=j+1:=by omega
    refine⟨?_,?_,l,q,hj,?_⟩
    ·have:=J.b1;rw[ft]at this;rw[el];exact this
    ·have:=J.s1;rw[el];exact this
    ·simp[e1]
   ·rw[hc]at h;cases h
    refine⟨?_,?_,q,r,hj,?_⟩
    ·have:=J.b2;rw[ft,jr]at this;rw[e1];exact this
    ·have:=J.s2;rw[jr]at this;rw[e1];exact this
    ·simp[e1]
  ·rcases h with⟨_,h⟩|⟨_,h⟩<;>rw[hc]at h<;>cases h
  ·rw[hc]at h1;cases h1
 ·intro p j b hc
  have b8:standOf (stands s) p≠ .concl:=by rw[hc];intro z;cases z
  rcases yt g.mul b8 with⟨j',l,r,_,h⟩|⟨j',l,r,hj,h⟩|⟨q',h1,h2,h3⟩
  ·rcases h with⟨_,h⟩|⟨_,h⟩<;>rw[hc]at h<;>cases h
  ·have J:=yB (formulas s) 0 j' l r 3 g.mul (.inr ⟨hj,U⟩)
   have ks:=lK (formulas s) 0 j' l r g.mul (.inr hj);rcases h with⟨e1,h⟩|⟨e1,h⟩
   ·rw[hc]at h;cases h
    have el:p=j+1:=by omega
    refine⟨?_,?_,l,r,hj⟩
    ·have:=J.b1;rw[ft]at this;rw[el];exact this
    ·have:=J.s1;rw[el];exact this
   ·rw[hc]at h;cases h
    refine⟨?_,?_,l,r,hj⟩
    ·have:=J.b2;rw[ft,jr]at this;rw[e1];exact this
    ·have:=J.s2;rw[jr]at this;rw[e1];exact this
  ·rw[hc]at h1;cases h1
structure Eqv(n:Nat)(c d:List Nat):Prop where
 l1:c.length=n
 l2:d.length=n
 eq:∀i j,i<n->j<n->(c.getD i 0=c.getD j 0↔d.getD i 0=d.getD j 0)
theorem Eqv.refl{n:Nat}{c:List Nat}(h:c.length=n):Eqv n c c:=⟨h,h,λ_ _ _ _=>Iff.rfl⟩
theorem Eqv.symm{n:Nat}{c d:List Nat}(h:Eqv n c d):Eqv n d c:=⟨h.l2,h.l1,λi j hi hj=>(h.eq i j hi hj).symm⟩
def lP(a b:Nat)(c:List Nat):List Nat:=c.map λz=>if z=c.getD b 0 then c.getD a 0 else z
theorem getD_map'{f:Nat->Nat}{c:List Nat}{i:Nat}(h:i<c.length):(c.map f).getD i 0=f (c.getD i 0):=by simp only[nZ,ez,br h];rfl
def ng(c:List Nat)(a b i j:Nat):Prop:=c.getD i 0=c.getD j 0\/(c.getD i 0=c.getD a 0/\ c.getD j 0=c.getD b 0)\/(c.getD i 0=c.getD b 0/\ c.getD j 0=c.getD a 0)
theorem lQ(a b:Nat)(c:List Nat):(join a b c).length=c.length:=by unfold join;simp
theorem Ce(a b:Nat)(c:List Nat):(lP a b c).length=c.length:=by unfold lP;simp
theorem IL(x y u v:Nat):((if u=x then y else u)=(if v=x then y else v))↔(u=v\/(u=x/\ v=y)\/(u=y/\ v=x)):=by by_cases h1:u=x<;>by_cases h2:v=x<;>simp[h1,h2]<;>omega
theorem gJ{n:Nat}{c:List Nat}(h:c.length=n)(a b:Nat){i j:Nat}(hi:i<n)(hj:j<n):(join a b c).getD i 0=(join a b c).getD j 0↔ng c a b i j:=by unfold join ng;rw[getD_map' (by omega),getD_map' (by omega)];exact IL _ _ _ _
theorem Rk{n:Nat}{c:List Nat}(h:c.length=n)(a b:Nat){i j:Nat}(hi:i<n)(hj:j<n):(lP a b c).getD i 0=(lP a b c).getD j 0↔ng c a b i j:=by
 unfold lP ng;rw[getD_map' (by omega),getD_map' (by omega)];refine(IL _ _ _ _).trans ?_;constructor
 ·rintro(h|h|h)
  ·exact .inl h
  ·exact .inr (.inr h)
  ·exact .inr (.inl h)
 ·rintro(h|h|h)
  ·exact .inl h
  ·exact .inr (.inr h)
  ·exact .inr (.inl h)
theorem IM{n:Nat}{c d:List Nat}(e:Eqv n c d){a b i j:Nat}(ha:a<n)(hb:b<n)(hi:i<n)(hj:j<n):ng c a b i j↔ng d a b i j:=by unfold ng;rw[e.eq i j hi hj,e.eq i a hi ha,e.eq j b hj hb,e.eq i b hi hb,e.eq j a hj ha]
theorem Rl{n:Nat}{c d:List Nat}(e:Eqv n c d){a b:Nat}(ha:a<n)(hb:b<n):Eqv n (join a b c) (join a b d):=⟨by rw[lQ];exact e.l1,by rw[lQ];exact e.l2,λi j hi hj=>by rw[gJ e.l1 a b hi hj,gJ e.l2 a b hi hj];exact IM e ha hb hi hj⟩
theorem IP{n:Nat}{c d:List Nat}(e:Eqv n c d){a b:Nat}(ha:a<n)(hb:b<n):Eqv n (lP a b c) (join a b d):=⟨by rw[Ce];exact e.l1,by rw[lQ];exact e.l2,λi j hi hj=>by rw[Rk e.l1 a b hi hj,gJ e.l2 a b hi hj];exact IM e ha hb hi hj⟩
theorem yE(a b:Nat)(c:List Nat):together a b c=true↔c.getD a 0=c.getD b 0:=by unfold together;exact beq_iff_eq
theorem yF{n:Nat}{c d:List Nat}(e:Eqv n c d){a b:Nat}(ha:a<n)(hb:b<n):together a b c=together a b d:=by rw[iG,yE,yE];exact e.eq a b ha hb
theorem join_comm{n:Nat}{c:List Nat}(h:c.length=n){a b x y:Nat}(ha:a<n)(hb:b<n)(hx:x<n)(hy:y<n):Eqv n (join a b (join x y c)) (join x y (join a b c)):=by
 refine⟨by rw[lQ,lQ];exact h,by rw[lQ,lQ];exact h,λi j hi hj=>?_⟩;have l1:(join x y c).length=n:=by rw[lQ];exact h
 have l2:(join a b c).length=n:=by rw[lQ];exact h
 rw[gJ l1 a b hi hj,gJ l2 x y hi hj];unfold ng;rw[gJ h x y hi hj,gJ h x y hi ha,gJ h x y hj hb,gJ h x y hi hb,gJ h x y hj ha,gJ h a b hi hj,gJ h a b hi hx,gJ h a b hj hy,gJ h a b hi hy,gJ h a b hj hx];unfold ng;generalize c.getD i 0=I;generalize c.getD j 0=J;generalize c.getD a 0=A;generalize c.getD b 0=B;generalize c.getD x 0=X;generalize c.getD y 0=Y;constructor
 all_goals
  intro h;rcases h with(h|⟨h,h'⟩|⟨h,h'⟩)|⟨h|⟨h,h'⟩|⟨h,h'⟩,g|⟨g,g'⟩|⟨g,g'⟩⟩|⟨h|⟨h,h'⟩|⟨h,h'⟩,g|⟨g,g'⟩|⟨g,g'⟩⟩<;>subst_vars<;>simp
theorem Rm{n:Nat}{c:List Nat}(h:c.length=n){a b x y:Nat}(ha:a<n)(hb:b<n)(hx:x<n)(hy:y<n):
  (!together a b c&& !together x y (join a b c))=(!together x y c&& !together a b (join x y c)):=by
 rw[iG];simp only[bb,Bool.not_eq_true',<-Bool.not_eq_true,yE];rw[gJ h a b hx hy,gJ h x y ha hb];unfold ng;generalize c.getD a 0=A;generalize c.getD b 0=B;generalize c.getD x 0=X;generalize c.getD y 0=Y;constructor
 all_goals
  rintro⟨h1,h2⟩;refine⟨λe=>h2 (.inl e),?_⟩;rintro(e|⟨e,e'⟩|⟨e,e'⟩)
  ·exact h1 e
  ·exact h2 (.inr (.inl ⟨e.symm,e'.symm⟩))
  ·exact h2 (.inr (.inr ⟨e'.symm,e.symm⟩))
theorem IQ:∀(n:Nat) (z:List (Nat×Nat)),z.length<=n->(∀x∈z,∀y∈z,x.1=y.1↔x.2=y.2)->(z.map (·.1)).eraseDups.length=(z.map (·.2)).eraseDups.length
 |_,[],_,_=>rfl
 |0,x::r,h,_=>by simp at h
 |n+1,x::r,h,k=>by
  rw[da,da,uU,uU,aX,aX,List.filter_map,List.filter_map];have e:r.filter ((λb=> !b==x.2)∘λy=>y.2)=r.filter ((λb=> !b==x.1)∘λy=>y.1):=by refine List.filter_congr λy hy=>?_;show(!y.2==x.2)=(!y.1==x.1);congr 1;rw[iG,beq_iff_eq,beq_iff_eq];exact(k y (by simp[hy]) x (by simp)).symm
  rw[e];have hl:(r.filter ((λb=> !b==x.1)∘λy=>y.1)).length<=n:=cO (sQ _ _) (by simp at h;omega);rw[IQ n _ hl λu hu v hv=>k u (by simp[(sV.mp hu).1]) v (by simp[(sV.mp hv).1])]
theorem IS{n:Nat}{c d:List Nat}(e:Eqv n c d):countParts c=countParts d:=by
 unfold countParts;have h:=IQ _ (c.zip d) (aM _) (by
  intro x hx y hy;obtain⟨i,hi,ei⟩:=Bq.mp hx;obtain⟨j,hj,ej⟩:=Bq.mp hy;rw[List.length_zip,e.l1,e.l2]at hi hj;have:=e.eq i j (by omega) (by omega);rw[Br]at ei ej;simp only[nZ,br (show i<c.length by rw[e.l1];omega),br (show j<c.length by rw[e.l1];omega),br (show i<d.length by rw[e.l2];omega),br (show j<d.length by rw[e.l2];omega),Option.getD_some]at this;rw[<-ei,<-ej];exact this)
 rw[show(c.zip d).map (·.1)=c from List.map_fst_zip (by rw[e.l1,e.l2];omega),show(c.zip d).map (·.2)=d from List.map_snd_zip (by rw[e.l1,e.l2];omega)]at h;exact h
def vy(n:Nat)(p:Par):Prop:=p.1<n/\ p.2.1<n/\ p.2.2<n
def pO(n:Nat)(ps:List Par):Prop:=∀p∈ps,vy n p
def drawn(f:Nat)(ps:List Par)(c:Parts):Bool:=match takePars f ps c with
 |some (Rn,c')=>Rn.isEmpty&&countParts c'==1
 |none=>false
theorem IT{n:Nat}{c d:List Nat}(e:Eqv n c d):∀(ps:List Par),pO n ps->readyPar ps c=readyPar ps d
 |[],_=>rfl
 |p::r,h=>by have hp:=h p (by simp);unfold readyPar;rw[yF e hp.2.1 hp.2.2,IT e r λq hq=>h q (by simp[hq])]
theorem yG:∀(ps:List Par) (c:Parts),(readyPar ps c=none/\ ∀p∈ps,together p.2.1 p.2.2 c=false)\/∃l1 p l2,ps=l1++p::l2/\ readyPar ps c=some (p,l1++l2)/\ together p.2.1 p.2.2 c=true/\ ∀q∈l1,together q.2.1 q.2.2 c=false
 |[],c=> .inl ⟨U,by simp⟩
 |p::r,c=>by
  by_cases h:together p.2.1 p.2.2 c=true
  ·exact .inr ⟨[],p,r,U,by unfold readyPar;rw[if_pos h];rfl,h,by simp⟩
  ·rcases yG r c with⟨e,k⟩|⟨l1,q,l2,e,e2,e3,e4⟩
   ·refine .inl ⟨by unfold readyPar;rw[if_neg h,e];rfl,λx hx=>?_⟩
    rcases a_.mp hx with rfl|hx
    ·exact sW.mpr h
    ·exact k x hx
   ·refine .inr ⟨p::l1,q,l2,by rw[e];rfl,by unfold readyPar;rw[if_neg h,e2];rfl,e3,λx hx=>?_⟩
    rcases a_.mp hx with rfl|hx
    ·exact sW.mpr h
    ·exact e4 x hx
theorem vz{ps l:List Par}{c:Parts}{p:Par}(h:readyPar ps c=some (p,l))(f:Nat):drawn (f+1) ps c=(!together p.1 p.2.1 c&&drawn f l (join p.1 p.2.1 c)):=by unfold drawn;rw[takePars,h];simp only;cases together p.1 p.2.1 c<;>simp
theorem yH{n:Nat}:∀(f:Nat) (ps:List Par) {c d:List Nat},Eqv n c d->pO n ps->drawn f ps c=drawn f ps d
 |0,ps,c,d,e,_=>by unfold drawn takePars;simp only;rw[IS e]
 |f+1,ps,c,d,e,h=>by
  have k:=IT e ps h;rcases yG ps d with⟨e1,_⟩|⟨l1,p,l2,e0,e1,e2,_⟩
  ·unfold drawn takePars;rw[k,e1];simp only;rw[IS e]
  ·have hp:=h p (by rw[e0];simp)
   have ih:=yH f (l1++l2) (Rl e hp.1 hp.2.1) (λq hq=>h q (by rw[e0];simp only[cN,a_]at hq⊢;rcases hq with z|z;exact .inl z;exact .inr (.inr z)));have k1:drawn (f+1) ps c=(!together p.1 p.2.1 c&&drawn f (l1++l2) (join p.1 p.2.1 c)):=vz (k.trans e1) f;rw[k1,vz e1 f,yF e hp.1 hp.2.1,ih]
theorem Cf{c:List Nat}{n:Nat}(h:c.length=n){p q:Par}(hp:vy n p)(hq:vy n q)(hr:together p.2.1 p.2.2 c=true):together p.2.1 p.2.2 (join q.1 q.2.1 c)=true:=by rw[yE]at hr⊢;rw[gJ h _ _ hp.2.1 hp.2.2];exact .inl hr
theorem Ro{α:Type}{l1 l2 m1 m2:List α}{p q:α}(e:l1++p::l2=m1++q::m2)(hp:p∉m1\/∃P:α->Prop,P p/\ ∀x∈m1,¬P x):(l1=m1/\ p=q/\ l2=m2)\/∃k,l1=m1++q::k/\ m2=k++p::l2:=by
 have np:p∉m1:=by
  rcases hp with h|⟨P,h1,h2⟩
  ·exact h
  ·exact λc=>h2 p c h1
 rcases List.append_eq_append_iff.mp e with⟨a,e1,e2⟩|⟨a,e1,e2⟩
 ·cases a with
  |nil=>simp at e1 e2;exact .inl ⟨e1.symm,e2.1,e2.2⟩
  |cons x a=>exfalso;simp at e2;exact np (by rw[e1,<-e2.1];simp)
 ·cases a with
  |nil=>simp at e1 e2;exact .inl ⟨e1,e2.1.symm,e2.2.symm⟩
  |cons x a=>simp at e2;exact .inr ⟨a,by rw[e1,e2.1],e2.2⟩
theorem Rp{n:Nat}:∀(f:Nat) (l1 l2:List Par) (p:Par) (c:Parts),(l1++p::l2).length=f+1->c.length=n->pO n (l1++p::l2)->together p.2.1 p.2.2 c=true->
  drawn (f+1) (l1++p::l2) c=(!together p.1 p.2.1 c&&drawn f (l1++l2) (join p.1 p.2.1 c)):=by
 intro f;induction f with
 |zero=>
  intro l1 l2 p c hl hc eC hr;have:l1=[]/\ l2=[]:=by simp at hl;exact⟨uX.mp (by omega),uX.mp (by omega)⟩
  obtain⟨rfl,rfl⟩:=this;refine vz ?_ 0;show readyPar [p] c=some (p,[]);unfold readyPar;rw[if_pos hr]
 |succ f ih=>
  intro l1 l2 p c hl hc eC hr;have hp:=eC p (by simp);rcases yG (l1++p::l2) c with⟨_,k⟩|⟨m1,q,m2,e0,e1,e2,e3⟩
  ·rw[k p (by simp)]at hr;cases hr
  ·have hq:=eC q (by rw[e0];simp)
   rcases Ro e0 (.inr ⟨λx=>together x.2.1 x.2.2 c=true,hr,λx hx z=>by have z:together x.2.1 x.2.2 c=true:=z;rw[e3 x hx]at z;cases z⟩)with⟨rfl,rfl,rfl⟩|⟨k,rfl,rfl⟩
   ·exact vz e1 _
   ·rw[vz e1]
    have Rq:∀x∈m1++(k++p::l2),vy n x:=λx hx=>eC x (by simp only[cN,a_]at hx⊢;rcases hx with z|z|z|z<;>simp[z]);have Rr:∀x∈m1++q::(k++l2),vy n x:=λx hx=>eC x (by simp only[cN,a_]at hx⊢;rcases hx with z|z|z|z<;>simp[z]);have A:=ih (m1++k) l2 p (join q.1 q.2.1 c) (by simp at hl⊢;omega) (by rw[lQ];exact hc) (by rw[fK];exact Rq) (Cf hc hp hq hr);have B:=ih m1 (k++l2) q (join p.1 p.2.1 c) (by simp at hl⊢;omega) (by rw[lQ];exact hc) Rr (Cf hc hq hp e2);rw[fK]at A;rw[A,show m1++q::k++l2=m1++q::(k++l2) by simp,B];rw[<-Bool.and_assoc,<-Bool.and_assoc,Rm hc hq.1 hq.2.1 hp.1 hp.2.1,fK];rw[yH (n:=n) f (m1++(k++l2)) (join_comm hc hp.1 hp.2.1 hq.1 hq.2.1) λx hx=>eC x (by simp only[cN,a_]at hx⊢;rcases hx with z|z|z<;>simp[z])]
def nh:List Par->Parts->Option Parts
 |[],c=>some c
 |p::r,c=>if together p.1 p.2.1 c=true then none else nh r (lP p.1 p.2.1 c)
def isReady(c:Parts)(p:Par):Bool:=together p.2.1 p.2.2 c
theorem Cg{n:Nat}{c0:Parts}:∀(l2 l1:List Par) (c d:Parts),Eqv n c d->pO n (l1++l2)->(∀p∈l2,isReady c0 p=true->isReady d p=true)->
  drawn (l1++l2).length (l1++l2) d=match nh (l2.filter (isReady c0)) c with
   |none=>false
   |some c'=>drawn (l1++l2.filter λp=> !isReady c0 p).length (l1++l2.filter λp=> !isReady c0 p) c'
 |[],l1,c,d,e,eC,_=>by simp only[List.filter_nil,iD,nh]at eC⊢;exact yH _ _ e.symm eC
 |p::r,l1,c,d,e,eC,hm=>by
  have hp:=eC p (by simp);by_cases hr:isReady c0 p=true
  ·have pP:=hm p (by simp) hr
   rw[kM,if_pos hr,kM,if_neg (by rw[hr];simp)];have ln:(l1++p::r).length=(l1++r).length+1:=by simp;omega
   rw[ln,Rp _ l1 r p d (by simp;omega) e.l2 eC pP];unfold nh;rw[yF e hp.1 hp.2.1];cases ht:together p.1 p.2.1 d with
   |true=>simp
   |false=>simp only[xX,mV,pz,if_false];exact Cg r l1 _ _ (IP e hp.1 hp.2.1) (λx hx=>eC x (by simp only[cN,a_]at hx⊢;rcases hx with z|z<;>simp[z])) λq hq Rt=>Cf e.l2 (eC q (by simp[hq])) hp (hm q (by simp[hq]) Rt)
  ·rw[kM,if_neg hr,kM,if_pos (by simpa using hr)]
   have:=Cg (c0:=c0) r (l1++[p]) c d e (by simpa using eC) λq hq=>hm q (by simp[hq]);simpa using this
theorem Ru{ps:List Par}{c:Parts}(h:∀p∈ps,isReady c p=false)(b8:ps≠ [])(f:Nat):drawn f ps c=false:=by
 have e:takePars f ps c=some (ps,c):=by
  cases f with
  |zero=>rfl
  |succ f=>
   unfold takePars;rcases yG ps c with⟨e,_⟩|⟨l1,p,l2,rfl,_,k,_⟩
   ·rw[e]
   ·have:=h p (by simp)
    unfold isReady at this;rw[this]at k;cases k
 unfold drawn;rw[e];cases ps with
 |nil=>exact absurd U b8
 |cons a r=>rfl
theorem Rv(c:Parts):drawn 0 [] c=(countParts c==1):=by unfold drawn takePars;simp
theorem Rw{n:Nat}{c:Parts}(hc:c.length=n){ps:List Par}(eC:pO n ps):drawn ps.length ps c=match nh (ps.filter (isReady c)) c with
   |none=>false
   |some c'=>drawn (ps.filter λp=> !isReady c p).length (ps.filter λp=> !isReady c p) c':=by
 have:=Cg (n:=n) (c0:=c) ps [] c c (Eqv.refl hc) eC λp _ h=>h;simpa using this
def Ci(n:Nat)(es:List Edge):Prop:=∀e∈es,e.1<n/\ e.2<n
def ni:List Edge->Parts->Option Parts
 |[],c=>some c
 |e::r,c=>if together e.1 e.2 c=true then none else ni r (lP e.1 e.2 c)
theorem IU:∀(es:List Edge) (c:Parts),(takeEdges es (c,true)).2=true
 |[],_=>rfl
 |e::r,c=>by unfold takeEdges;exact IU r _
theorem IV{n:Nat}:∀(es:List Edge) (c d:Parts),Eqv n c d->Ci n es->match ni es c with
   |none=>(takeEdges es (d,false)).2=true
   |some c'=>(takeEdges es (d,false)).2=false/\ Eqv n c' (takeEdges es (d,false)).1
 |[],c,d,e,_=>⟨U,e⟩
 |x::r,c,d,e,h=>by
  have hx:=h x (by simp);unfold ni takeEdges;rw[yF e hx.1 hx.2];cases ht:together x.1 x.2 d with
  |true=>simp only[if_true,Bool.or_true];exact IU r _
  |false=>simp only[pz,if_false,qO];exact IV r _ _ (IP e hx.1 hx.2) λy hy=>h y (by simp[hy])
theorem Rx{s:Net}{n:Nat}(hn:(points s).length=n)(he:Ci n (edges s))(hp:pO n (pars s)):draws s=match ni (edges s) (List.range n)with
   |none=>false
   |some c=>drawn (pars s).length (pars s) c:=by
 have k:=IV (n:=n) (edges s) (List.range n) (List.range n) (Eqv.refl (by simp)) he;have e:draws s=(let x:=takeEdges (edges s) (apart s,false);if x.2=true then false else drawn (pars s).length (pars s) x.1):=by unfold draws drawn;rfl
 rw[e];unfold apart;rw[hn];simp only;cases h:ni (edges s) (List.range n)with
 |none=>rw[h]at k;simp only at k⊢;rw[if_pos k]
 |some c=>rw[h]at k;simp only at k⊢;rw[if_neg (by rw[k.1];simp)];exact yH _ _ k.2.symm hp
def cK:Formula->List Nat
 | .tensor A B| .par A B=>(cK A).map (·+1)++(cK B).map (·+(1+nodes A))
 |_=>[0]
theorem yI:∀A:Formula,multiplicative A=true->cK (dual A)=cK A
 | .atom _ _,_=>rfl
 | .tensor A B,h| .par A B,h=>by simp only[multiplicative,bb]at h;simp only[dual,cK];rw[yI A h.1,yI B h.2,yj]
 | .wth A B,h| .plus A B,h| .ofc A,h| .whn A,h=>by simp[multiplicative]at h
theorem qY:∀A:Formula,multiplicative A=true->(cK A).length=atoms A
 | .atom _ _,_=>rfl
 | .tensor A B,h| .par A B,h=>by simp only[multiplicative,bb]at h;simp[cK,atoms,qY A h.1,qY B h.2]
 | .wth A B,h| .plus A B,h| .ofc A,h| .whn A,h=>by simp[multiplicative]at h
theorem places_len:∀A:Formula,multiplicative A=true->(placesOf A).length=atoms A
 | .atom _ _,_=>rfl
 | .tensor A B,h| .par A B,h=>by simp only[multiplicative,bb]at h;simp[placesOf,atoms,places_len A h.1,places_len B h.2]
 | .wth A B,h| .plus A B,h| .ofc A,h| .whn A,h=>by simp[multiplicative]at h
theorem yJ:∀(A:Formula),∀x∈cK A,x<nodes A
 | .atom _ _,x,hx=>by simp[cK]at hx;simp[nodes,hx]
 | .tensor A B,x,hx| .par A B,x,hx=>by
  simp only[cK,cN,c9]at hx;simp only[nodes];rcases hx with⟨y,hy,rfl⟩|⟨y,hy,rfl⟩
  ·have:=yJ A y hy;omega
  ·have:=yJ B y hy;omega
 | .wth A B,x,hx| .plus A B,x,hx| .ofc A,x,hx| .whn A,x,hx=>by simp[cK]at hx;simp[nodes,hx];omega
theorem yK:∀(A:Formula) (n k:Nat),multiplicative A=true->dS (pointsOf n A) k=(cK A).map (k+·)
 | .atom _ _,n,k,_=>by simp[pointsOf,dS,cK]
 | .tensor A B,n,k,h| .par A B,n,k,h=>by
  simp only[multiplicative,bb]at h;rw[pointsOf];show dS (pointsOf (n+1) A++pointsOf (n+1+nodes A) B) (k+1)=_;rw[tG,yK A _ _ h.1,yK B _ _ h.2,dq A _ h.1,cK,gD,jO,jO];congr 1
  ·exact sS λx _=>by show k+1+x=k+(x+1);omega
  ·exact sS λx _=>by show k+1+nodes A+x=k+(x+(1+nodes A));omega
 | .wth A B,_,_,h| .plus A B,_,_,h| .ofc A,_,_,h| .whn A,_,_,h=>by simp[multiplicative]at h
def cQ(fs:List Formula)(f:Nat):Nat:=Vanete.sum ((fs.take f).map atoms)
theorem foldl_add(l:List Nat):∀a,l.foldl (·+·) a=a+l.foldl (·+·) 0:=by
 induction l with
 |nil=>intro a;simp
 |cons x r ih=>intro a;rw[qM,qM,ih (a+x),ih (0+x)];omega
theorem sum_cons(x:Nat)(l:List Nat):Vanete.sum (x::l)=x+Vanete.sum l:=by unfold Vanete.sum;rw[qM,foldl_add];omega
theorem sum_nil:Vanete.sum []=0:=rfl
theorem sum_append(a b:List Nat):Vanete.sum (a++b)=Vanete.sum a+Vanete.sum b:=by
 induction a with
 |nil=>simp[sum_nil]
 |cons x r ih=>rw[lF,sum_cons,sum_cons,ih];omega
theorem lR(A:Formula)(r:List Formula)(f:Nat):cQ (A::r) (f+1)=atoms A+cQ r f:=by unfold cQ;rw[Bs,da,sum_cons]
theorem pQ(fs:List Formula):cQ fs 0=0:=rfl
structure At(fs:List Formula)(i f k:Nat)(A:Formula):Prop where
 fm:fs[f]? =some A
 lt:k<atoms A
 eq:i=cQ fs f+k
theorem yL:∀(fs:List Formula) (i:Nat),i<Vanete.sum (fs.map atoms)->∃f k A,At fs i f k A
 |[],i,h=>by simp[sum_nil]at h
 |A::r,i,h=>by
  rw[da,sum_cons]at h;by_cases c:i<atoms A
  ·exact⟨0,i,A,U,c,by rw[pQ];omega⟩
  ·obtain⟨f,k,B,a⟩:=yL r (i-atoms A) (by omega)
   exact⟨f+1,k,B,a.fm,a.lt,by rw[lR];have:=a.eq;omega⟩
theorem At.tell:∀{fs:List Formula} {i f k:Nat} {A:Formula} (i0:Nat),At fs i f k A->tellLeaf fs i0 i=(i0+f,(placesOf A).getD k [])
 |[],_,_,_,_,_,a=>by have:=a.fm;simp at this
 |B::r,i,0,k,A,i0,a=>by have e:B=A:=ay a.fm;subst e;have:=a.eq;rw[pQ]at this;have h:=a.lt;unfold tellLeaf;rw[if_pos (by omega),show i=k by omega];rfl
 |B::r,i,f+1,k,A,i0,a=>by have:=a.eq;rw[lR]at this;unfold tellLeaf;rw[if_neg (by omega),At.tell (f:=f) (k:=k) (A:=A) (i0+1) ⟨a.fm,a.lt,by omega⟩];congr 1;omega
theorem At.root:∀{fs:List Formula} {i f k:Nat} {A:Formula} (n:Nat),eO fs->At fs i f k A->∃r d,(rootsFrom n fs)[f]? =some r/\ (cK A)[k]? =some d/\ n<=r/\ (dS (pointsFrom n fs) n)[i]? =some (r+d)
 |[],_,_,_,_,_,_,a=>by have:=a.fm;simp at this
 |B::r,i,0,k,A,n,hm,a=>by
  have e:B=A:=ay a.fm;subst e;have hB:=hm B (by simp);have:=a.eq;rw[pQ]at this;have hk:k<(cK B).length:=by rw[qY B hB];exact a.lt
  refine⟨n,(cK B)[k],U,br hk,aM _,?_⟩;rw[pointsFrom,tG,yK B _ _ hB,show i=k by omega,dQ (by rw[aI];exact hk),ez,br hk];rfl
 |B::r,i,f+1,k,A,n,hm,a=>by
  have hB:=hm B (by simp);have:=a.eq;rw[lR]at this;obtain⟨q,d,h1,h2,h3,h4⟩:=At.root (f:=f) (k:=k) (A:=A) (n+nodes B) (λC hC=>hm C (by simp[hC])) ⟨a.fm,a.lt,U⟩;refine⟨q,d,h1,h2,by omega,?_⟩;have hl:((cK B).map (n+·)).length=atoms B:=by rw[aI,qY B hB]
  rw[pointsFrom,tG,yK B _ _ hB,dq B _ hB,eM (by omega),show i-((cK B).map (n+·)).length=cQ r f+k by omega];exact h4
def iL:Nat->List Formula->List Nat
 |_,[]=>[]
 |j,A::r=>List.replicate (nodes A) j++iL (j+1) r
theorem yM:∀{fs:List Formula} {f r d n:Nat} {A:Formula} (j:Nat),fs[f]? =some A->(rootsFrom n fs)[f]? =some r->d<nodes A->(iL j fs)[r-n+d]? =some (j+f)
 |[],_,_,_,_,_,_,h,_,_=>by simp at h
 |B::q,0,r,d,n,A,j,h,h2,hd=>by have e:B=A:=ay h;subst e;have e2:n=r:=ay h2;subst e2;rw[iL,dQ (by rw[pE];omega),List.getElem?_replicate,if_pos (by omega)];rfl
 |B::q,f+1,r,d,n,A,j,h,h2,hd=>by have h2:(rootsFrom (n+nodes B) q)[f]? =some r:=h2;have ge:=vi q (n+nodes B) r (bC h2);have ih:=yM (j+1) (show q[f]? =some A from h) h2 hd;rw[iL,eM (by rw[pE];omega),pE,show r-n+d-nodes B=r-(n+nodes B)+d by omega,ih];congr 1;omega
theorem IW:∀(fs:List Formula) (j:Nat),(iL j fs).length=bf fs
 |[],_=>rfl
 |A::r,j=>by simp[iL,bf,IW r]
inductive ia(be si:List Int):Nat->List Nat->Prop
 |root {p:Nat}:be[p]? =some (-1)->ia be si p []
 |up {p j sd:Nat} {π:List Nat}:be[p]? =some (j:Int)->si[p]? =some (sd:Int)->ia be si j π->ia be si p (π++[sd])
structure Seg(xs ys:List Int)(n:Nat)(as bs:List Int)(m:Nat):Prop where
 a:∀d,d<m->xs[n+d]? =as[d]?
 b:∀d,d<m->ys[n+d]? =bs[d]?
theorem Ry{be si:List Int}{A B:Formula}(hA:multiplicative A=true)(hB:multiplicative B=true){n:Nat}{b sd:Int}{π:List Nat}
  (ihA:∀{n:Nat} {b sd:Int} {π:List Nat},Seg be si n (dg n b A) (dh sd A) (nodes A)->ia be si n π->∀{k d:Nat} {pl:List Nat},(cK A)[k]? =some d->(placesOf A)[k]? =some pl->ia be si (n+d) (π++pl))
  (ihB:∀{n:Nat} {b sd:Int} {π:List Nat},Seg be si n (dg n b B) (dh sd B) (nodes B)->ia be si n π->∀{k d:Nat} {pl:List Nat},(cK B)[k]? =some d->(placesOf B)[k]? =some pl->ia be si (n+d) (π++pl))
  (sg:Seg be si n (b::(dg (n+1) (n:Int) A++dg (n+1+nodes A) (n:Int) B)) (sd::(dh 0 A++dh 1 B)) (1+nodes A+nodes B)) (c:ia be si n π) {k d:Nat} {pl:List Nat}
  (hk:((cK A).map (·+1)++(cK B).map (·+(1+nodes A)))[k]? =some d) (hp:((placesOf A).map (λp=>0::p)++(placesOf B).map λp=>1::p)[k]? =some pl):ia be si (n+d) (π++pl):=by
 have nA:=fz A;have nB:=fz B;have lA:(dg (n+1) (n:Int) A).length=nodes A:=gu A _ _ hA;have lS:(dh 0 A).length=nodes A:=hX A _ hA;have sA:Seg be si (n+1) (dg (n+1) (n:Int) A) (dh 0 A) (nodes A):=by
  constructor
  ·intro d hd
   have:=sg.a (1+d) (by omega);rw[show n+(1+d)=n+1+d by omega,show 1+d=d+1 by omega,fZ,dQ (by omega)]at this;exact this
  ·intro d hd
   have:=sg.b (1+d) (by omega);rw[show n+(1+d)=n+1+d by omega,show 1+d=d+1 by omega,fZ,dQ (by omega)]at this;exact this
 have sB:Seg be si (n+1+nodes A) (dg (n+1+nodes A) (n:Int) B) (dh 1 B) (nodes B):=by
  constructor
  ·intro d hd
   have:=sg.a (1+nodes A+d) (by omega);rw[show n+(1+nodes A+d)=n+1+nodes A+d by omega,show 1+nodes A+d=(nodes A+d)+1 by omega,fZ,eM (by omega),lA,show nodes A+d-nodes A=d by omega]at this;exact this
  ·intro d hd
   have:=sg.b (1+nodes A+d) (by omega);rw[show n+(1+nodes A+d)=n+1+nodes A+d by omega,show 1+nodes A+d=(nodes A+d)+1 by omega,fZ,eM (by omega),lS,show nodes A+d-nodes A=d by omega]at this;exact this
 have loA:((cK A).map (·+1)).length=atoms A:=by rw[aI,qY A hA]
 have lpA:((placesOf A).map (λp=>0::p)).length=atoms A:=by rw[aI,places_len A hA]
 have cA:ia be si (n+1) (π++[0]):=by
  have z:=ou A (n+1) (n:Int) 0 hA;refine .up (j:=n) (sd:=0) ?_ ?_ c
  ·have:=sA.a 0 nA;rw[pC,z.1]at this;exact this
  ·have:=sA.b 0 nA;rw[pC,z.2]at this;exact this
 have cB:ia be si (n+1+nodes A) (π++[1]):=by
  have z:=ou B (n+1+nodes A) (n:Int) 1 hB;refine .up (j:=n) (sd:=1) ?_ ?_ c
  ·have:=sB.a 0 nB;rw[pC,z.1]at this;exact this
  ·have:=sB.b 0 nB;rw[pC,z.2]at this;exact this
 by_cases aU:k<atoms A
 ·rw[dQ (by omega),ez]at hk hp
  obtain⟨d',h1,rfl⟩:=eu.mp hk;obtain⟨p',h2,rfl⟩:=eu.mp hp;have:=ihA sA cA h1 h2;rw[fK]at this;rw[show n+(d'+1)=n+1+d' by omega];exact this
 ·rw[eM (by omega),ez]at hk hp
  obtain⟨d',h1,rfl⟩:=eu.mp hk;obtain⟨p',h2,rfl⟩:=eu.mp hp;rw[loA]at h1;rw[lpA]at h2;have:=ihB sB cB h1 h2;rw[fK]at this;rw[show n+(d'+(1+nodes A))=n+1+nodes A+d' by omega];exact this
theorem Cj{be si:List Int}:∀(A:Formula),multiplicative A=true->∀{n:Nat} {b sd:Int} {π:List Nat},Seg be si n (dg n b A) (dh sd A) (nodes A)->ia be si n π->
  ∀{k d:Nat} {pl:List Nat},(cK A)[k]? =some d->(placesOf A)[k]? =some pl->ia be si (n+d) (π++pl)
 | .atom _ _,_,n,b,sd,π,sg,c,k,d,pl,h1,h2=>by
  have:k=0:=by have:=(cP.mp h1).1;simp[cK]at this;exact this
  subst this;have e1:0=d:=ay h1;have e2:[]=pl:=ay h2;subst e1 e2;rw[iD];exact c
 | .tensor A B,h,n,b,sd,π,sg,c,k,d,pl,h1,h2| .par A B,h,n,b,sd,π,sg,c,k,d,pl,h1,h2=>by simp only[multiplicative,bb]at h;exact Ry h.1 h.2 (λsg c=>Cj A h.1 sg c) (λsg c=>Cj B h.2 sg c) sg c h1 h2
 | .wth A B,h,_,_,_,_,_,_,_,_,_,_,_| .plus A B,h,_,_,_,_,_,_,_,_,_,_,_| .ofc A,h,_,_,_,_,_,_,_,_,_,_,_| .whn A,h,_,_,_,_,_,_,_,_,_,_,_=>by simp[multiplicative]at h
theorem yN:∀{fs:List Formula} {f r n:Nat} {A:Formula},eO fs->fs[f]? =some A->(rootsFrom n fs)[f]? =some r->n<=r/\ ∀d,d<nodes A->
  (f_ n fs)[r-n+d]? =(dg r (-1) A)[d]?/\ (iK fs)[r-n+d]? =(dh (-1) A)[d]?/\ (i6 n fs)[r-n+d]? =(dG r A)[d]?/\ (fs.flatMap enc)[r-n+d]? =(enc A)[d]?
 |[],_,_,_,_,_,h,_=>by simp at h
 |B::q,0,r,n,A,hm,h,h2=>by have e:B=A:=ay h;subst e;have e2:n=r:=ay h2;subst e2;have hB:=hm B (by simp);refine⟨aM _,λd hd=>?_⟩;rw[show n-n+d=d by omega,f_,iK,i6,gE];exact⟨dQ (by rw[gu B _ _ hB];exact hd),dQ (by rw[hX B _ hB];exact hd),dQ (by rw[gG B _ hB];exact hd),dQ (by rw[bJ];exact hd)⟩
 |B::q,f+1,r,n,A,hm,h,h2=>by
  have hB:=hm B (by simp);have h2:(rootsFrom (n+nodes B) q)[f]? =some r:=h2;obtain⟨h3,ih⟩:=yN (λC hC=>hm C (by simp[hC])) (show q[f]? =some A from h) h2;refine⟨by omega,λd hd=>?_⟩;obtain⟨i1,i2,i3,i4⟩:=ih d hd;rw[f_,iK,i6,gE];have e:r-n+d-nodes B=r-(n+nodes B)+d:=by omega
  refine⟨?_,?_,?_,?_⟩
  ·rw[eM (by rw[gu B _ _ hB];omega),gu B _ _ hB,e];exact i1
  ·rw[eM (by rw[hX B _ hB];omega),hX B _ hB,e];exact i2
  ·rw[eM (by rw[gG B _ hB];omega),gG B _ hB,e];exact i3
  ·rw[eM (by rw[bJ];omega),bJ,e];exact i4
theorem At.Rz{fs:List Formula}{i f k:Nat}{A:Formula}(hm:eO fs)(a:At fs i f k A){p:Nat}(hp:(dS (pointsFrom 0 fs) 0)[i]? =some p):ia (f_ 0 fs) (iK fs) p ((placesOf A).getD k []):=by
 obtain⟨r,d,h1,h2,h3,h4⟩:=a.root 0 hm;rw[hp]at h4;have e:p=r+d:=ay h4;subst e;have hA:=hm A (bC a.fm);obtain⟨_,sg⟩:=yN hm a.fm h1;have hk:k<(placesOf A).length:=by rw[places_len A hA];exact a.lt
 have c:=Cj (be:=f_ 0 fs) (si:=iK fs) A hA (n:=r) (b:= -1) (sd:= -1) (π:=[]) ⟨λd hd=>by have:=(sg d hd).1;rw[jr]at this;exact this,λd hd=>by have:=(sg d hd).2.1;rw[jr]at this;exact this⟩
  (.root (by have:=(sg 0 (fz A)).1;rw[jr,pC,(ou A r (-1) (-1) hA).1]at this;exact this)) h2 (br hk)
 rw[mS]at c;rw[nZ,br hk];exact c
def desc:Formula->List Int->Option Nat
 | .tensor A B,p| .par A B,p=>match p with
  |[]=>none
  |z::r=>if z=0 then(desc A r).map (·+1)else if z=1 then(desc B r).map (·+(1+nodes A))else none
 |_,p=>match p with
  |[]=>some 0
  |_::_=>none
def atPlace(A:Formula)(p:List Int):Option Nat:=(Vanetg.placeIn p).bind λq=>(placesOf A).findIdx? λx=>x==q
theorem IX(z:Int)(r:List Int):Vanetg.placeIn (z::r)=if 0<=z then(Vanetg.placeIn r).map λq=>z.toNat::q else none:=by
 unfold Vanetg.placeIn;by_cases h:0<=z
 ·rw[if_pos h]
  by_cases k:r.all (λn=>decide (0<=n))=true
  ·rw[if_pos (by rw[iB,k];simp[h]),if_pos k];rfl
  ·rw[if_neg (by rw[iB];simp only[bb];exact λc=>k c.2),if_neg k];rfl
 ·rw[if_neg h,if_neg (by rw[iB];simp[h])]
theorem tL{l:List (List Nat)}{P:List Nat->Bool}(h:∀x∈l,P x=false):l.findIdx? P=none:=by rw[List.findIdx?_eq_none_iff];exact h
theorem IY(i:Nat)(l:List (List Nat))(q:List Nat):(l.map λp=>i::p).findIdx? (λx=>x==i::q)=l.findIdx? λx=>x==q:=by rw[List.findIdx?_map];congr 1;funext x;simp
theorem RA{A B:Formula}(hA:multiplicative A=true)(hB:multiplicative B=true)
  (ihA:∀p,desc A p=(atPlace A p).bind λk=>(cK A)[k]?) (ihB:∀p,desc B p=(atPlace B p).bind λk=>(cK B)[k]?) (p:List Int):
  (match p with
  |[]=>none
  |z::r=>if z=0 then(desc A r).map (·+1)else if z=1 then(desc B r).map (·+(1+nodes A))else none)=
  ((Vanetg.placeIn p).bind λq=>((placesOf A).map (λp=>0::p)++(placesOf B).map λp=>1::p).findIdx? λx=>x==q).bind λk=>((cK A).map (·+1)++(cK B).map (·+(1+nodes A)))[k]?:=by
 have loA:((cK A).map (·+1)).length=atoms A:=by rw[aI,qY A hA]
 have lpA:((placesOf A).map (λp=>0::p)).length=atoms A:=by rw[aI,places_len A hA]
 cases p with
 |nil=>show none=Option.bind (Option.bind (some []) _) _;rw[cY,xY,tL (by intro x hx;obtain⟨y,_,rfl⟩:=c9.mp hx;rfl),tL (by intro x hx;obtain⟨y,_,rfl⟩:=c9.mp hx;rfl)];rfl
 |cons z r=>
  simp only;rw[IX];by_cases h0:z=0
  ·subst h0
   rw[if_pos U,if_pos (Int.le_refl 0),ihA];unfold atPlace;cases Vanetg.placeIn r with
   |none=>rfl
   |some q=>
    simp only[lD,cY];rw[xY,show Int.toNat 0=0 from rfl,IY];cases hf:(placesOf A).findIdx? λx=>x==q with
    |none=>rw[tL (by intro x hx;obtain⟨y,_,rfl⟩:=c9.mp hx;simp)];rfl
    |some k=>
     have hk:k<(placesOf A).length:=by have:=HH.mp hf;exact this.1
     rw[places_len A hA]at hk;simp only[Option.some_or,cY];rw[dQ (by omega),ez]
  ·rw[if_neg h0]
   by_cases h1:z=1
   ·subst h1
    rw[if_pos U,if_pos (by decide),ihB];unfold atPlace;cases Vanetg.placeIn r with
    |none=>rfl
    |some q=>
     simp only[lD,cY];rw[xY,show Int.toNat 1=1 from rfl,IY,tL (l:=(placesOf A).map λp=>0::p) (by intro x hx;obtain⟨y,_,rfl⟩:=c9.mp hx;simp)];cases hf:(placesOf B).findIdx? λx=>x==q with
     |none=>rfl
     |some k=>simp only[Option.none_or,lD,cY];rw[lpA,eM (by omega),loA,ez,show k+atoms A-atoms A=k by omega]
   ·rw[if_neg h1]
    by_cases hz:0<=z
    ·rw[if_pos hz]
     cases Vanetg.placeIn r with
     |none=>rfl
     |some q=>simp only[lD,cY];rw[xY,tL (by intro x hx;obtain⟨y,_,rfl⟩:=c9.mp hx;simp;intro e;omega),tL (by intro x hx;obtain⟨y,_,rfl⟩:=c9.mp hx;simp;intro e;omega)];rfl
    ·rw[if_neg hz];rfl
theorem yO:∀(A:Formula),multiplicative A=true->∀p,desc A p=(atPlace A p).bind λk=>(cK A)[k]?
 | .atom _ _,_,p=>by
  unfold atPlace;cases p with
  |nil=>rfl
  |cons z r=>
   rw[IX];show none=_;split
   ·cases Vanetg.placeIn r with
    |none|some q=>rfl
   ·rfl
 | .tensor A B,h,p| .par A B,h,p=>by simp only[multiplicative,bb]at h;exact RA h.1 h.2 (yO A h.1) (yO B h.2) p
 | .wth A B,h,_| .plus A B,h,_| .ofc A,h,_| .whn A,h,_=>by simp[multiplicative]at h
theorem RB{A:Formula}(h:multiplicative A=true){p:List Int}{k:Nat}(e:atPlace A p=some k):k<atoms A:=by unfold atPlace at e;obtain⟨q,_,h2⟩:=cC.mp e;have:=(HH.mp h2).1;rwa[places_len A h]at this
theorem RD{s:Net}{i:Nat}{A:Formula}(hi:s.concl[i]? =some A){p:List Int}(hA:multiplicative A=true)(h:theLeaf s (i:Int) p=none):desc A p=none:=by
 unfold theLeaf at h;rw[if_neg (by omega),iZ]at h;rw[yO A hA];unfold atPlace;cases hp:Vanetg.placeIn p with
 |none=>rfl
 |some q=>rw[hp]at h;simp only[cY]at h⊢;unfold leafAt at h;rw[hi]at h;simp only[cY]at h;rw[Option.map_eq_none_iff]at h;rw[h];rfl
theorem Ck{s:Net}{i:Nat}{A:Formula}(hi:s.concl[i]? =some A){p:List Int}{n:Nat}(hA:multiplicative A=true)(h:theLeaf s (i:Int) p=some n):∃k d,At s.concl n i k A/\ (cK A)[k]? =some d/\ desc A p=some d:=by
 unfold theLeaf at h;rw[if_neg (by omega),iZ]at h;obtain⟨q,hq,h⟩:=cC.mp h;unfold leafAt at h;rw[hi]at h;simp only[cY]at h;obtain⟨k,hk,e⟩:=eu.mp h;have ap:atPlace A p=some k:=by unfold atPlace;rw[hq];exact hk
 have lt:=RB hA ap;have lo:k<(cK A).length:=by rw[qY A hA];exact lt
 refine⟨k,(cK A)[k],⟨hi,lt,e.symm⟩,br lo,?_⟩;rw[yO A hA,ap,cY,br lo]
structure lT(nd:List Node)(se:List Int)(n:Nat)(A:Formula):Prop where
 mul:multiplicative A=true
 nd:∀d,d<nodes A->nd[n+d]? =(enc A)[d]?
 se:∀d,d<nodes A->se[n+d]? =(dG n A)[d]?
theorem lT.two{nd:List Node}{se:List Int}{n k:Nat}{C A B:Formula}(h:lT nd se n C)(e:C= .tensor A B/\ k=2\/C= .par A B/\ k=3):
  nd[n]? =some (k,[])/\ se[n]? =some ((n+1+nodes A:Nat):Int)/\ lT nd se (n+1) A/\ lT nd se (n+1+nodes A) B:=by
 have hm:multiplicative A=true/\ multiplicative B=true:=by rcases e with⟨rfl,_⟩|⟨rfl,_⟩<;>(have:=h.mul;simp only[multiplicative,bb]at this;exact this)
 have hn:nodes C=1+nodes A+nodes B:=by rcases e with⟨rfl,_⟩|⟨rfl,_⟩<;>rfl
 have he:enc C=(k,[])::(enc A++enc B):=by rcases e with⟨rfl,rfl⟩|⟨rfl,rfl⟩<;>rfl
 have hs:dG n C=((n+1+nodes A:Nat):Int)::(dG (n+1) A++dG (n+1+nodes A) B):=by rcases e with⟨rfl,rfl⟩|⟨rfl,rfl⟩<;>rfl
 have nA:=fz A;have nB:=fz B;have lE:(enc A).length=nodes A:=bJ A;have lS:(dG (n+1) A).length=nodes A:=gG A _ hm.1;refine⟨?_,?_,⟨hm.1,λd hd=>?_,λd hd=>?_⟩,⟨hm.2,λd hd=>?_,λd hd=>?_⟩⟩
 ·have:=h.nd 0 (by omega);rw[he]at this;exact this
 ·have:=h.se 0 (by omega);rw[hs]at this;exact this
 ·have:=h.nd (d+1) (by omega)
  rw[he,fZ,dQ (by omega),show n+(d+1)=n+1+d by omega]at this;exact this
 ·have:=h.se (d+1) (by omega)
  rw[hs,fZ,dQ (by omega),show n+(d+1)=n+1+d by omega]at this;exact this
 ·have:=h.nd (nodes A+d+1) (by omega)
  rw[he,fZ,eM (by omega),lE,show n+(nodes A+d+1)=n+1+nodes A+d by omega,show nodes A+d-nodes A=d by omega]at this;exact this
 ·have:=h.se (nodes A+d+1) (by omega)
  rw[hs,fZ,eM (by omega),lS,show n+(nodes A+d+1)=n+1+nodes A+d by omega,show nodes A+d-nodes A=d by omega]at this;exact this
theorem lT.of{fs:List Formula}{f r:Nat}{A:Formula}(hm:eO fs)(h:fs[f]? =some A)(h2:(rootsFrom 0 fs)[f]? =some r):lT (fs.flatMap enc) (i6 0 fs) r A:=by
 obtain⟨_,sg⟩:=yN hm h h2;refine⟨hm A (bC h),λd hd=>?_,λd hd=>?_⟩
 ·have:=(sg d hd).2.2.2;rw[jr]at this;exact this
 ·have:=(sg d hd).2.2.1;rw[jr]at this;exact this
theorem lT.head{nd:List Node}{se:List Int}{n:Nat}{A:Formula}(h:lT nd se n A):∃x,nd[n]? =some x/\ (enc A)[0]? =some x:=by
 have:=h.nd 0 (fz A);have hl:0<(enc A).length:=by rw[bJ];exact fz A
 exact⟨(enc A)[0],by rw[pC,br hl]at this;exact this,br hl⟩
section
variable{α:Type}{step:α->Option α}{I:α->Prop}
def iter(step:α->Option α):Nat->α->Option α
 |0,x=>some x
 |k+1,x=>(iter step k x).bind step
theorem pR(hI:∀x y,I x->step x=some y->I y){x:α}(hx:I x):∀(k:Nat) (y:α),iter step k x=some y->I y
 |0,y,h=>by have:x=y:=ay h;rw[<-this];exact hx
 |k+1,y,h=>by obtain⟨z,h1,h2⟩:=cC.mp h;exact hI z y (pR hI hx k z h1) h2
theorem Cm(hI:∀x y,I x->step x=some y->I y)(hj:∀x y z,I x->I y->step x=some z->step y=some z->x=y){x y:α}(hx:I x)(hy:I y):
  ∀(k m:Nat) (z:α),iter step k x=some z->iter step (m+k) y=some z->iter step m y=some x
 |0,m,z,h1,h2=>by have:x=z:=ay h1;rw[this];exact h2
 |k+1,m,z,h1,h2=>by obtain⟨a,a1,a2⟩:=cC.mp h1;obtain⟨b,b1,b2⟩:=cC.mp (show(iter step (m+k) y).bind step=some z from h2);have e:=hj a b z (pR hI hx k a a1) (pR hI hy (m+k) b b1) a2 b2;subst e;exact Cm hI hj hx hy k m a a1 b1
theorem ends{code:α->Nat}{N:Nat}{x0:α}(h0:I x0)(hI:∀x y,I x->step x=some y->I y)(hj:∀x y z,I x->I y->step x=some z->step y=some z->x=y)
  (Cn:∀x,I x->step x≠some x0) (hc:∀x z,I x->step x=some z->code z<N) (qZ:∀x y z w,I x->I y->step x=some z->step y=some w->code z=code w->z=w):
  ∃k x,k<=N/\ iter step k x0=some x/\ step x=none:=by
 apply Classical.byContradiction;intro hn;have go:∀k,k<=N->∀x,iter step k x0=some x->∃y,step x=some y:=by
  intro k hk x hx;cases e:step x with
  |none=>exact absurd ⟨k,x,hk,hx,e⟩ hn
  |some y=>exact⟨y,U⟩
 have all:∀k,k<=N+1->∃x,iter step k x0=some x:=by
  intro k;induction k with
  |zero=>intro _;exact⟨x0,U⟩
  |succ k ih=>intro hk;obtain⟨x,hx⟩:=ih (by omega);obtain⟨y,hy⟩:=go k (by omega) x hx;exact⟨y,by show(iter step k x0).bind step=some y;rw[hx];exact hy⟩
 let g:Nat->α:=λk=>(iter step k x0).getD x0;have hg:∀k,k<=N+1->iter step k x0=some (g k):=by intro k hk;obtain⟨x,hx⟩:=all k hk;show _=some ((iter step k x0).getD x0);rw[hx];rfl
 have gs:∀k,k<=N->step (g k)=some (g (k+1)):=by intro k hk;have h1:=hg (k+1) (by omega);have h2:(iter step k x0).bind step=some (g (k+1)):=h1;rw[hg k (by omega)]at h2;exact h2
 have gI:∀k,k<=N+1->I (g k):=λk hk=>pR hI h0 k _ (hg k hk);have nd:((List.range (N+1)).map λk=>code (g (k+1))).Nodup:=by
  rw[List.Nodup,List.pairwise_map];refine List.Pairwise.imp_of_mem ?_ List.pairwise_lt_range;intro i j hi vA iH e;rw[jq]at hi vA;have e2:=qZ _ _ _ _ (gI i (by omega)) (gI j (by omega)) (gs i (by omega)) (gs j (by omega)) e;have h1:=hg (i+1) (by omega);have h2:=hg (j+1) (by omega);rw[e2]at h1;have c:=Cm hI hj h0 h0 (i+1) (j-i) _ h1 (by rw[show j-i+(i+1)=j+1 by omega];exact h2);have c2:(iter step (j-i-1) x0).bind step=some x0:=by
   have:j-i=(j-i-1)+1:=by omega
   rw[this]at c;exact c
  obtain⟨z,z1,z2⟩:=cC.mp c2;exact Cn z (pR hI h0 _ _ z1) z2
 have le:=tw nd (m:=List.range N) (by
  intro x hx;obtain⟨k,hk,rfl⟩:=c9.mp hx;rw[jq]at hk⊢;exact hc _ _ (gI k (by omega)) (gs k (by omega)))
 simp at le;omega
end
def cM(cuts:List Formula):List Formula:=cuts.flatMap λA=>[A,dual A]
theorem vB:∀(cuts:List Formula) (o p:Nat),o<=p->p<o+Vanete.sum ((cM cuts).map atoms)->
  ∃c k A,cuts[c]? =some A/\ k<atoms A/\ (cM cuts)[2*c]? =some A/\ (cM cuts)[2*c+1]? =some (dual A)/\
   ((p=o+(cQ (cM cuts) (2*c)+k)/\ Vanete.over o cuts p=o+(cQ (cM cuts) (2*c+1)+k))\/(p=o+(cQ (cM cuts) (2*c+1)+k)/\ Vanete.over o cuts p=o+(cQ (cM cuts) (2*c)+k)))
 |[],o,p,h1,h2=>by simp[cM,sum_nil]at h2;omega
 |A::r,o,p,h1,h2=>by
  have eF:cM (A::r)=A::dual A::cM r:=rfl;have ed:=lH A;rw[eF]at h2⊢;rw[da,da,sum_cons,sum_cons]at h2;have b0:cQ (A::dual A::cM r) 0=0:=rfl;have b1:cQ (A::dual A::cM r) 1=atoms A:=by rw[show(1:Nat)=0+1 from rfl,lR,pQ];omega
  by_cases c1:p<o+atoms A
  ·refine⟨0,p-o,A,U,by omega,U,U, .inl ⟨?_,?_⟩⟩
   ·show p=o+(cQ (A::dual A::cM r) 0+_);rw[b0];omega
   ·unfold Vanete.over;rw[if_pos c1];show _=o+(cQ (A::dual A::cM r) 1+_);rw[b1];omega
  ·by_cases c2:p<o+2*atoms A
   ·refine⟨0,p-o-atoms A,A,U,by omega,U,U, .inr ⟨?_,?_⟩⟩
    ·show p=o+(cQ (A::dual A::cM r) 1+_);rw[b1];omega
    ·unfold Vanete.over;rw[if_neg c1,if_pos c2];show _=o+(cQ (A::dual A::cM r) 0+_);rw[b0];omega
   ·obtain⟨c,k,B,e1,e2,e3,e4,e5⟩:=vB r (o+2*atoms A) p (by omega) (by omega)
    have s0:∀f,cQ (A::dual A::cM r) (f+2)=2*atoms A+cQ (cM r) f:=by intro f;rw[show f+2=(f+1)+1 from rfl,lR,lR];omega
    refine⟨c+1,k,B,e1,e2,?_,?_,?_⟩
    ·rw[show 2*(c+1)=2*c+1+1 by omega,fZ,fZ];exact e3
    ·rw[show 2*(c+1)+1=2*c+1+1+1 by omega,fZ,fZ];exact e4
    ·rw[show 2*(c+1)=2*c+2 by omega,show 2*c+2+1=2*c+1+2 by omega,s0,s0]
     have eo:Vanete.over o (A::r) p=Vanete.over (o+2*atoms A) r p:=by rw[Vanete.over,if_neg c1,if_neg c2]
     rw[eo];rcases e5 with⟨q1,q2⟩|⟨q1,q2⟩
     ·exact .inl ⟨by omega,by omega⟩
     ·exact .inr ⟨by omega,by omega⟩
theorem q0:∀{fs:List Formula} {i f k g m:Nat} {A B:Formula},At fs i f k A->At fs i g m B->f=g/\ k=m/\ A=B
 |[],_,_,_,_,_,_,_,a,_=>by have:=a.fm;simp at this
 |C::r,i,0,k,0,m,A,B,a,b=>by have h1:=a.eq;have h2:=b.eq;have e:A=B:=ay (a.fm.symm.trans b.fm);exact⟨U,by omega,e⟩
 |C::r,i,0,k,g+1,m,A,B,a,b=>by have h1:=a.eq;have h2:=b.eq;rw[pQ]at h1;rw[lR]at h2;have e:C=A:=ay a.fm;have:=a.lt;subst e;omega
 |C::r,i,f+1,k,0,m,A,B,a,b=>by have h1:=a.eq;have h2:=b.eq;rw[pQ]at h2;rw[lR]at h1;have e:C=B:=ay b.fm;have:=b.lt;subst e;omega
 |C::r,i,f+1,k,g+1,m,A,B,a,b=>by have h1:=a.eq;have h2:=b.eq;rw[lR]at h1 h2;obtain⟨e1,e2,e3⟩:=q0 (fs:=r) (i:=cQ r f+k) (f:=f) (k:=k) (g:=g) (m:=m) (A:=A) (B:=B) ⟨a.fm,a.lt,U⟩ ⟨b.fm,b.lt,by omega⟩;exact⟨by omega,e2,e3⟩
theorem RE(cuts:List Formula)(o p:Nat)(h1:o<=p)(h2:p<o+Vanete.sum ((cM cuts).map atoms)):o<=Vanete.over o cuts p/\ Vanete.over o cuts (Vanete.over o cuts p)=p:=by
 obtain⟨c,k,A,e1,e2,e3,e4,e5⟩:=vB cuts o p h1 h2;have ed:=lH A;have key:∀f B j,At (cM cuts) j f k B->o+j<o+Vanete.sum ((cM cuts).map atoms):=by
  intro f B j a;have h:=a.eq;have:∀(fs:List Formula) (f k j:Nat) (B:Formula),At fs j f k B->j<Vanete.sum (fs.map atoms):=by
   intro fs;induction fs with
   |nil=>intro f k j B a;have:=a.fm;simp at this
   |cons C r ih=>
    intro f k j B a;rw[da,sum_cons];cases f with
    |zero=>have h:=a.eq;rw[pQ]at h;have e:C=B:=ay a.fm;have:=a.lt;subst e;omega
    |succ f=>have h:=a.eq;rw[lR]at h;have:=ih f k (cQ r f+k) B ⟨a.fm,a.lt,U⟩;omega
  have:=this _ _ _ _ _ a;omega
 rcases e5 with⟨q1,q2⟩|⟨q1,q2⟩
 ·refine⟨by omega,?_⟩
  have aq:At (cM cuts) (cQ (cM cuts) (2*c+1)+k) (2*c+1) k (dual A):=⟨e4,by omega,U⟩
  obtain⟨c',k',A',f1,f2,f3,f4,f5⟩:=vB cuts o (Vanete.over o cuts p) (by omega) (by rw[q2];exact key _ _ _ aq);rcases f5 with⟨r1,r2⟩|⟨r1,r2⟩
  ·have:=q0 aq (show At (cM cuts) (cQ (cM cuts) (2*c+1)+k) (2*c') k' A' from⟨f3,f2,by omega⟩)
   omega
  ·have:=q0 aq (show At (cM cuts) (cQ (cM cuts) (2*c+1)+k) (2*c'+1) k' (dual A')from⟨f4,by rw[lH];exact f2,by omega⟩)
   have hc:c=c':=by omega
   subst hc;omega
 ·refine⟨by omega,?_⟩
  have aq:At (cM cuts) (cQ (cM cuts) (2*c)+k) (2*c) k A:=⟨e3,e2,U⟩
  obtain⟨c',k',A',f1,f2,f3,f4,f5⟩:=vB cuts o (Vanete.over o cuts p) (by omega) (by rw[q2];exact key _ _ _ aq);rcases f5 with⟨r1,r2⟩|⟨r1,r2⟩
  ·have:=q0 aq (show At (cM cuts) (cQ (cM cuts) (2*c)+k) (2*c') k' A' from⟨f3,f2,by omega⟩)
   have hc:c=c':=by omega
   subst hc;omega
  ·have:=q0 aq (show At (cM cuts) (cQ (cM cuts) (2*c)+k) (2*c'+1) k' (dual A')from⟨f4,by rw[lH];exact f2,by omega⟩)
   omega
theorem At.tM:∀{fs:List Formula} {j f k:Nat} {B:Formula},At fs j f k B->j<Vanete.sum (fs.map atoms)
 |[],_,_,_,_,a=>by have:=a.fm;simp at this
 |C::r,j,0,k,B,a=>by rw[da,sum_cons];have h:=a.eq;rw[pQ]at h;have e:C=B:=ay a.fm;have:=a.lt;subst e;omega
 |C::r,j,f+1,k,B,a=>by rw[da,sum_cons];have h:=a.eq;rw[lR]at h;have:=At.tM (fs:=r) (f:=f) (k:=k) (B:=B) (j:=cQ r f+k) ⟨a.fm,a.lt,U⟩;omega
theorem vC(s:Net):formulas s=s.concl++cM s.cuts:=rfl
theorem RF(a b:List Formula)(f:Nat):cQ (a++b) (a.length+f)=Vanete.sum (a.map atoms)+cQ b f:=by unfold cQ;rw[List.take_append,pF (by omega),gD,sum_append,show a.length+f-a.length=f by omega]
theorem IZ(a b:List Formula){f:Nat}(h:f<a.length):cQ (a++b) f=cQ a f:=by unfold cQ;rw[List.take_append_of_le_length (by omega)]
theorem At.left{a b:List Formula}{i f k:Nat}{A:Formula}(h:At a i f k A):At (a++b) i f k A:=by have hf:f<a.length:=(cP.mp h.fm).1;exact⟨by rw[dQ hf];exact h.fm,h.lt,by rw[IZ a b hf];exact h.eq⟩
theorem At.right{a b:List Formula}{i f k:Nat}{A:Formula}(h:At b i f k A):At (a++b) (Vanete.sum (a.map atoms)+i) (a.length+f) k A:=⟨by rw[eM (by omega),show a.length+f-a.length=f by omega];exact h.fm,h.lt,by rw[RF];have:=h.eq;omega⟩
theorem At.of_left{a b:List Formula}{i f k:Nat}{A:Formula}(h:At (a++b) i f k A)(hf:f<a.length):At a i f k A:=⟨by have:=h.fm;rwa[dQ hf]at this,h.lt,by rw[<-IZ a b hf];exact h.eq⟩
theorem At.outer{s:Net}{i f k:Nat}{A:Formula}(h:At (formulas s) i f k A):i<Vanete.outer s↔f<s.concl.length:=by
 constructor
 ·intro hi
  obtain⟨f',k',A',a⟩:=yL s.concl i hi;have:=q0 h a.left;have hf:f'<s.concl.length:=(cP.mp a.fm).1;omega
 ·intro hf
  exact(h.of_left hf).tM
theorem q_(s:Net):Vanete.sum ((formulas s).map atoms)=Vanete.outer s+Vanete.sum ((cM s.cuts).map atoms):=by rw[vC,gD,sum_append];rfl
theorem I_(fs:List Formula):(fs.flatMap leaves).length=Vanete.sum (fs.map atoms):=by
 induction fs with
 |nil=>rfl
 |cons A r ih=>rw[gE,bL,ih,da,sum_cons,qS]
theorem Good.total{s:Net}(g:Good s):s.to.length=Vanete.sum ((formulas s).map atoms):=by rw[g.len,gZ];show(dS (pointsFrom 0 (formulas s)) 0).length=_;rw[BX _ _ _ g.mul,I_]
abbrev cv(s:Net):List Nat:=dS (points s) 0
theorem Good.leaf{s:Net}(g:Good s){i:Nat}(hi:i<s.to.length):∃f k A r d,At (formulas s) i f k A/\ (dR s)[f]? =some r/\ (cK A)[k]? =some d/\ d<nodes A/\ (cv s)[i]? =some (r+d)/\ (iL 0 (formulas s))[r+d]? =some f:=by obtain⟨f,k,A,a⟩:=yL (formulas s) i (by rw[<-g.total];exact hi);obtain⟨r,d,h1,h2,h3,h4⟩:=a.root 0 g.mul;have hd:=yJ A d (bC h2);have ho:=yM 0 a.fm h1 hd;rw[jr,ft]at ho;exact⟨f,k,A,r,d,a,h1,h2,hd,h4,ho⟩
theorem Ja:∀(l:List Nat) (c a b:Nat),l[2*c]? =some a->l[2*c+1]? =some b->(a,Stand.cut b)∈cutRoots l/\ (b,Stand.cut a)∈cutRoots l
 |[],c,a,b,h,_=>by simp at h
 |[x],c,a,b,h,k=>by simp at k
 |x::y::r,0,a,b,h,k=>by have e1:x=a:=ay h;have e2:y=b:=ay k;subst e1 e2;simp[cutRoots]
 |x::y::r,c+1,a,b,h,k=>by
  have h:r[2*c]? =some a:=by rw[show 2*(c+1)=2*c+1+1 by omega]at h;exact h
  have k:r[2*c+1]? =some b:=by rw[show 2*(c+1)+1=2*c+1+1+1 by omega]at k;exact k
  have:=Ja r c a b h k;simp only[cutRoots,a_];exact⟨.inr (.inr this.1), .inr (.inr this.2)⟩
theorem Good.over{s:Net}(g:Good s){i:Nat}(h1:Vanete.outer s<=i)(h2:i<s.to.length):
  ∃f r d q,(cv s)[i]? =some (r+d)/\ (iL 0 (formulas s))[r+d]? =some f/\ s.concl.length<=f/\ (dR s)[f]? =some r/\ standOf (stands s) r= .cut q/\ (cv s)[Vanete.over (Vanete.outer s) s.cuts i]? =some (q+d)/\ r<(points s).length/\
   Vanete.outer s<=Vanete.over (Vanete.outer s) s.cuts i/\ Vanete.over (Vanete.outer s) s.cuts i<s.to.length:=by
 have ht:=g.total;rw[q_]at ht;obtain⟨c,k,A,e1,e2,e3,e4,e5⟩:=vB s.cuts (Vanete.outer s) i h1 (by omega);have hA:multiplicative A=true:=g.mul A (by rw[vC];exact iY _ (bC e3));have a0:At (formulas s) (Vanete.outer s+(cQ (cM s.cuts) (2*c)+k)) (s.concl.length+2*c) k A:=At.right ⟨e3,e2,U⟩;have a1:At (formulas s) (Vanete.outer s+(cQ (cM s.cuts) (2*c+1)+k)) (s.concl.length+(2*c+1)) k (dual A):=At.right ⟨e4,by rw[lH];exact e2,U⟩;obtain⟨r0,d0,p1,p2,_,p4⟩:=a0.root 0 g.mul;obtain⟨r1,d1,q1,q2,_,q4⟩:=a1.root 0 g.mul;rw[yI A hA,p2]at q2;have ed:d0=d1:=ay q2;subst ed;have hd:=yJ A d0 (bC p2);have o0:=yM 0 a0.fm p1 hd;have o1:=yM 0 a1.fm q1 (by rw[yj];exact hd);rw[jr,ft]at o0 o1;have g0:(eV s)[2*c]? =some r0:=by unfold eV;rw[nX];exact p1
 have g1:(eV s)[2*c+1]? =some r1:=by unfold eV;rw[nX];exact q1
 have cr:=Ja _ c r0 r1 g0 g1;have mem:∀x,x∈cutRoots (eV s)->x∈stands s:=λx hx=>by unfold stands;exact iY _ hx
 have s0:=ot (oq g.mul) (mem _ cr.1);have s1:=ot (oq g.mul) (mem _ cr.2);have hn:(points s).length=bf (formulas s):=jV _ _ g.mul;have l0:=m7 _ _ r0 (bC p1);have l1:=m7 _ _ r1 (bC q1);have t0:=a0.tM;have t1:=a1.tM;rw[<-g.total]at t0 t1;rcases e5 with⟨z1,z2⟩|⟨z1,z2⟩
 ·exact⟨s.concl.length+2*c,r0,d0,r1,by rw[z1];exact p4,o0,by omega,p1,s0,by rw[z2];exact q4,by omega,by omega,by omega⟩
 ·exact⟨s.concl.length+(2*c+1),r1,d0,r0,by rw[z1];exact q4,o1,by omega,q1,s1,by rw[z2];exact p4,by omega,by omega,by omega⟩
def dI(s:Net)(x:Nat):Option Nat:=if s.to.getD x 0<Vanete.outer s then none else some (Vanete.over (Vanete.outer s) s.cuts (s.to.getD x 0))
theorem Good.toD{s:Net}(g:Good s){i:Nat}(hi:i<s.to.length):s.to.getD i 0<s.to.length/\ s.to.getD (s.to.getD i 0) 0=i:=by obtain⟨j,h1,h2,h3⟩:=g.to hi;rw[eX h1,eX h2];exact⟨h3,U⟩
theorem rf{s:Net}(g:Good s){x y:Nat}(hx:x<s.to.length)(h:dI s x=some y):y<s.to.length/\ Vanete.outer s<=y/\ s.to.getD (Vanete.over (Vanete.outer s) s.cuts y) 0=x:=by
 unfold dI at h;split at h
 ·cases h
 ·have e:=ay h
  obtain⟨t1,t2⟩:=g.toD hx;obtain⟨f,r,d,q,_,_,_,_,_,_,_,k1,k2⟩:=g.over (by omega) t1;have ht:=g.total;rw[q_]at ht;have oi:=RE s.cuts (Vanete.outer s) (s.to.getD x 0) (by omega) (by omega);rw[<-e];exact⟨k2,k1,by rw[oi.2,t2]⟩
theorem Jb{s:Net}(g:Good s)(x y z:Nat)(hx:x<s.to.length)(hy:y<s.to.length)(h1:dI s x=some z)(h2:dI s y=some z):x=y:=by rw[<-(rf g hx h1).2.2,(rf g hy h2).2.2]
theorem RG{s:Net}(g:Good s){i:Nat}(hi:i<Vanete.outer s):∃k x,k<=s.to.length/\ iter (dI s) k i=some x/\ dI s x=none:=by
 have ht:=g.total;rw[q_]at ht;exact ends (I:=λx=>x<s.to.length) (code:=λx=>x) (by omega) (λx y hx h=>(rf g hx h).1) (λx y z hx hy=>Jb g x y z hx hy) (λx hx e=>by have:=(rf g hx e).2.1;omega)
  (λx z hx h=>(rf g hx h).1) (λx y z w _ _ _ _ e=>e)
theorem Jc(s:Net):∀(k f n i x:Nat),k<f->iter (dI s) k i=some x->dI s x=none->Vanete.walkFrom s f n i=some (s.to.getD x 0,n+k)
 |0,f+1,n,i,x,_,h,hx=>by
  have e:i=x:=ay h;subst e;unfold dI at hx;split at hx
  ·unfold Vanete.walkFrom;simp only;rw[if_pos (by assumption)];rfl
  ·cases hx
 |k+1,f+1,n,i,x,hk,h,hx=>by
  have sh:∀(m:Nat) (y:Nat),iter (dI s) (m+1) y=(dI s y).bind (iter (dI s) m):=by
   intro m;induction m with
   |zero=>intro y;show(some y).bind (dI s)=_;rw[cY];cases dI s y<;>rfl
   |succ m ih=>intro y;show(iter (dI s) (m+1) y).bind (dI s)=_;rw[ih];cases dI s y<;>rfl
  rw[sh]at h;obtain⟨y,h1,h2⟩:=cC.mp h;have ih:=Jc s k f (n+1) y x (by omega) h2 hx;unfold dI at h1;split at h1
  ·cases h1
  ·have e:=ay h1
   unfold Vanete.walkFrom;simp only;rw[if_neg (by assumption),e,ih];congr 2;omega
structure Out(s:Net)(i y n:Nat):Prop where
 ex:∃x,iter (dI s) n i=some x/\ dI s x=none/\ y=s.to.getD x 0
theorem Good.out{s:Net}(g:Good s){i:Nat}(hi:i<Vanete.outer s):Out s i (comesOut s i).1 (comesOut s i).2/\ (comesOut s i).1<Vanete.outer s/\ (comesOut s i).2<=s.to.length:=by
 obtain⟨k,x,h1,h2,h3⟩:=RG g hi;have w:=Jc s k (s.to.length+1) 0 i x (by omega) h2 h3;have e:comesOut s i=(s.to.getD x 0,0+k):=by unfold comesOut Vanete.walk;rw[w];rfl
 rw[e];refine⟨⟨x,by rw[ft];exact h2,h3,U⟩,?_,by simpa using h1⟩;unfold dI at h3;split at h3
 ·assumption
 ·cases h3
theorem Good.RH{s:Net}(g:Good s){i j:Nat}(hi:i<Vanete.outer s)(hj:j<Vanete.outer s)(e:(comesOut s i).1=(comesOut s j).1):i=j:=by
 obtain⟨⟨x,x1,x2,x3⟩,_,_⟩:=g.out hi;obtain⟨⟨y,y1,y2,y3⟩,_,_⟩:=g.out hj;have ht:=g.total;rw[q_]at ht;have I0:∀x y,x<s.to.length->dI s x=some y->y<s.to.length:=λx y hx h=>(rf g hx h).1;have lx:=pR (I:=λx=>x<s.to.length) I0 (by omega) _ _ x1;have ly:=pR (I:=λx=>x<s.to.length) I0 (by omega) _ _ y1;have exy:x=y:=by have h1:=(g.toD lx).2;have h2:=(g.toD ly).2;rw[<-x3]at h1;rw[<-y3]at h2;rw[<-h1,<-h2,e]
 subst exy;have J:=Jb g;have fin:∀(a b m k:Nat),a<Vanete.outer s->b<Vanete.outer s->iter (dI s) k a=some x->iter (dI s) (m+k) b=some x->a=b:=by
  intro a b m k ha hb h1 h2;have c:=Cm (I:=λx=>x<s.to.length) I0 J (by omega:a<s.to.length) (by omega:b<s.to.length) k m x h1 h2;cases m with
  |zero=>exact(ay c).symm
  |succ m=>obtain⟨z,z1,z2⟩:=cC.mp (show(iter (dI s) m b).bind (dI s)=some a from c);have lz:=pR (I:=λx=>x<s.to.length) I0 (by omega) _ _ z1;have:=(rf g lz z2).2.1;omega
 by_cases hle:(comesOut s i).2<=(comesOut s j).2
 ·exact fin i j ((comesOut s j).2-(comesOut s i).2) (comesOut s i).2 hi hj x1 (by rw[show(comesOut s j).2-(comesOut s i).2+(comesOut s i).2=(comesOut s j).2 by omega];exact y1)
 ·exact(fin j i ((comesOut s i).2-(comesOut s j).2) (comesOut s j).2 hj hi y1 (by rw[show(comesOut s i).2-(comesOut s j).2+(comesOut s j).2=(comesOut s i).2 by omega];exact x1)).symm
structure Meet(s t:Net)(i j:Nat)(A:Formula):Prop where
 gs:Good s
 gt:Good t
 hi:s.concl[i]? =some A
 hj:t.concl[j]? =some (dual A)
def c4(s t:Net)(b:Bool):Net:=if b=true then t else s
def lU(i j:Nat)(b:Bool):Nat:=if b=true then j else i
def tN(A:Formula)(b:Bool):Formula:=if b=true then dual A else A
theorem Meet.good{s t:Net}{i j:Nat}{A:Formula}(m:Meet s t i j A)(b:Bool):Good (c4 s t b):=by cases b;exact m.gs;exact m.gt
theorem Meet.fm{s t:Net}{i j:Nat}{A:Formula}(m:Meet s t i j A)(b:Bool):(c4 s t b).concl[lU i j b]? =some (tN A b):=by cases b;exact m.hi;exact m.hj
theorem Jd(A:Formula)(b:Bool):atoms (tN A b)=atoms A:=by cases b;rfl;exact lH A
theorem Meet.mul{s t:Net}{i j:Nat}{A:Formula}(m:Meet s t i j A):multiplicative A=true:=m.gs.mul A (mT _ (bC m.hi))
theorem Meet.cK{s t:Net}{i j:Nat}{A:Formula}(m:Meet s t i j A)(b:Bool):cK (tN A b)=cK A:=by cases b;rfl;exact yI A m.mul
def bX(s t:Net)(i j:Nat)(b:Bool):Nat:=cQ (c4 s t b).concl (lU i j b)
def ib(s t:Net)(i j:Nat)(A:Formula)(b:Bool)(y:Nat):Prop:=bX s t i j b<=y/\ y<bX s t i j b+atoms A
instance(s t:Net)(i j:Nat)(A:Formula)(b:Bool)(y:Nat):Decidable (ib s t i j A b y):=by unfold ib;infer_instance
def ic(s t:Net)(i j:Nat)(A:Formula)(z:Bool×Nat):Option (Bool×Nat):=
 let y:=(comesOut (c4 s t z.1) z.2).1
 if ib s t i j A z.1 y then some (!z.1,bX s t i j (!z.1)+(y-bX s t i j z.1))else none
theorem Meet.at{s t:Net}{i j:Nat}{A:Formula}(m:Meet s t i j A)(b:Bool){y:Nat}(h:ib s t i j A b y):At (c4 s t b).concl y (lU i j b) (y-bX s t i j b) (tN A b):=⟨m.fm b,by rw[Jd];have:=h.2;have:=h.1;omega,by have:=h.1;show y=bX s t i j b+_;omega⟩
theorem Meet.Je{s t:Net}{i j:Nat}{A:Formula}(m:Meet s t i j A)(b:Bool){y f k:Nat}{B:Formula}(a:At (c4 s t b).concl y f k B):ib s t i j A b y↔f=lU i j b:=by
 constructor
 ·intro h;exact(q0 a (m.at b h)).1
 ·rintro rfl
  have e:B=tN A b:=ay (a.fm.symm.trans (m.fm b));have h1:=a.lt;have h2:=a.eq;rw[e,Jd]at h1;exact⟨by show cQ _ _<=y;omega,by show y<cQ _ _+_;omega⟩
theorem pS{s t:Net}{i j:Nat}{A:Formula}(m:Meet s t i j A){z w:Bool×Nat}(hz:z.2<Vanete.outer (c4 s t z.1))(h:ic s t i j A z=some w):
  w.1= !z.1/\ ib s t i j A w.1 w.2/\ w.2<Vanete.outer (c4 s t w.1)/\ (comesOut (c4 s t z.1) z.2).1=bX s t i j z.1+(w.2-bX s t i j w.1):=by
 unfold ic at h;simp only at h;split at h
 case isFalse=>cases h
 case isTrue jW=>
  have e:=ay h;have hb:ib s t i j A w.1 w.2:=by rw[<-e];have:=jW.1;have:=jW.2;exact⟨by show bX s t i j (!z.1)<=_;omega,by show _<bX s t i j (!z.1)+_;omega⟩
  refine⟨by rw[<-e],hb,(m.at w.1 hb).tM,?_⟩;rw[<-e];have:=jW.1;show _=bX s t i j z.1+(bX s t i j (!z.1)+_-bX s t i j (!z.1));omega
theorem RI{s t:Net}{i j:Nat}{A:Formula}(m:Meet s t i j A){leaf:Nat}(hl:leaf<Vanete.outer s)(rg:¬ib s t i j A false leaf):∃k z,k<=2*atoms A/\ iter (ic s t i j A) k (false,leaf)=some z/\ ic s t i j A z=none:=by
 refine ends (I:=λz=>z.2<Vanete.outer (c4 s t z.1)) (code:=λz=>(z.2-bX s t i j z.1)+if z.1=true then atoms A else 0) (x0:=(false,leaf)) hl (λz w hz h=>(pS m hz h).2.2.1) ?_ ?_ ?_ ?_
 ·intro x y z hx hy h1 h2
  obtain⟨a1,a2,a3,a4⟩:=pS m hx h1;obtain⟨b1,b2,b3,b4⟩:=pS m hy h2;obtain⟨x1,x2⟩:=x;obtain⟨y1,y2⟩:=y;have e1:x1=y1:=by have:(!x1)=(!y1):=a1.symm.trans b1;cases x1<;>cases y1<;>simp at this⊢
  subst e1;have e2:x2=y2:=(m.good x1).RH hx hy (a4.trans b4.symm);rw[e2]
 ·intro z hz h
  obtain⟨a1,a2,a3,a4⟩:=pS m hz h;exact rg a2
 ·intro x z hx h
  obtain⟨a1,a2,a3,a4⟩:=pS m hx h;have:=a2.1;have:=a2.2;show(z.2-bX s t i j z.1)+(if z.1=true then atoms A else 0)<2*atoms A;split<;>omega
 ·intro x y z w hx hy h1 h2 e
  obtain⟨a1,a2,a3,a4⟩:=pS m hx h1;obtain⟨b1,b2,b3,b4⟩:=pS m hy h2;obtain⟨z1,z2⟩:=z;obtain⟨w1,w2⟩:=w;have:=a2.1;have:=a2.2;have:=b2.1;have:=b2.2;simp only at*;cases z1<;>cases w1<;>simp only[pz,if_false,if_true]at e
  ·congr 1;omega
  ·omega
  ·omega
  ·congr 1;omega
theorem RJ{s t:Net}{i j:Nat}{A:Formula}(m:Meet s t i j A):Vanete.block s.concl i=(bX s t i j false,atoms A)/\ Vanete.block t.concl j=(bX s t i j true,atoms A):=by unfold Vanete.block;rw[m.hi,m.hj];exact⟨U,by simp only[lD,Option.getD_some,lH];rfl⟩
theorem Jf{s t:Net}{i j:Nat}{A:Formula}(m:Meet s t i j A)(f:Nat)(b:Bool)(leaf n:Nat):playFrom s t i j (f+1) b leaf n=match ic s t i j A (b,leaf)with
  |some w=>playFrom s t i j f w.1 w.2 (n+1)
  |none=>some (b,(comesOut (c4 s t b) leaf).1,n):=by
 obtain⟨e1,e2⟩:=RJ m;rw[playFrom,e1,e2];unfold ic;cases b with
 |false=>
  simp only[pz,if_false,c4,xX];by_cases h:ib s t i j A false (comesOut s leaf).1
  ·rw[if_pos (show ib s t i j A false (comesOut s leaf).1 from h)]
   have h':bX s t i j false<=(comesOut s leaf).1/\ (comesOut s leaf).1<bX s t i j false+atoms A:=h;rw[if_pos h']
  ·rw[if_neg (show¬ib s t i j A false (comesOut s leaf).1 from h)]
   have h':¬(bX s t i j false<=(comesOut s leaf).1/\ (comesOut s leaf).1<bX s t i j false+atoms A):=h;rw[if_neg h']
 |true=>
  simp only[if_true,c4,Bool.not_true];by_cases h:ib s t i j A true (comesOut t leaf).1
  ·rw[if_pos (show ib s t i j A true (comesOut t leaf).1 from h)]
   have h':bX s t i j true<=(comesOut t leaf).1/\ (comesOut t leaf).1<bX s t i j true+atoms A:=h;rw[if_pos h']
  ·rw[if_neg (show¬ib s t i j A true (comesOut t leaf).1 from h)]
   have h':¬(bX s t i j true<=(comesOut t leaf).1/\ (comesOut t leaf).1<bX s t i j true+atoms A):=h;rw[if_neg h']
theorem RK{α:Type}{step:α->Option α}:∀(m:Nat) (y:α),iter step (m+1) y=(step y).bind (iter step m):=by
 intro m;induction m with
 |zero=>intro y;show(some y).bind step=_;rw[cY];cases step y<;>rfl
 |succ m ih=>intro y;show(iter step (m+1) y).bind step=_;rw[ih];cases step y<;>rfl
theorem Jg{s t:Net}{i j:Nat}{A:Formula}(m:Meet s t i j A):∀(k f n:Nat) (z w:Bool×Nat),k<f->iter (ic s t i j A) k z=some w->ic s t i j A w=none->playFrom s t i j f z.1 z.2 n=some (w.1,(comesOut (c4 s t w.1) w.2).1,n+k)
 |0,f+1,n,z,w,_,h,hw=>by have e:z=w:=ay h;subst e;rw[Jf m,show(z.1,z.2)=z from rfl,hw];rfl
 |k+1,f+1,n,z,w,hk,h,hw=>by rw[RK]at h;obtain⟨y,h1,h2⟩:=cC.mp h;rw[Jf m,show(z.1,z.2)=z from rfl,h1];simp only;rw[Jg m k f (n+1) y w (by omega) h2 hw];congr 3;omega
theorem RL{s t:Net}{i j:Nat}{A:Formula}(m:Meet s t i j A){leaf:Nat}(hl:leaf<Vanete.outer s)(rg:¬ib s t i j A false leaf):
  ∃k w,iter (ic s t i j A) k (false,leaf)=some w/\ ic s t i j A w=none/\ k<=2*atoms A/\ Vanetg.play s t i j A leaf=(w.1,(comesOut (c4 s t w.1) w.2).1,k):=by
 obtain⟨k,w,h1,h2,h3⟩:=RI m hl rg;refine⟨k,w,h2,h3,h1,?_⟩;unfold Vanetg.play;rw[Jg m k (2*atoms A+2) 0 (false,leaf) w (by omega) h2 h3,ft];rfl
theorem Jh:∀n,switchings (n+1)=(switchings n).flatMap λw=>[w++[false],w++[true]]
 |0=>rfl
 |n+1=>by
  have ih:=Jh n;rw[show switchings (n+1+1)=(switchings (n+1)).map (λw=>false::w)++(switchings (n+1)).map λw=>true::w from rfl];rw[show(switchings (n+1)).flatMap (λw=>[w++[false],w++[true]])=((switchings n).map (λw=>false::w)++(switchings n).map λw=>true::w).flatMap λw=>[w++[false],w++[true]]from rfl];rw[px,List.flatMap_map,List.flatMap_map]
  conv=>lhs;rw[ih]
  rw[Bt,Bt];rfl
theorem vD:∀n,∀w∈switchings n,w.length=n
 |0,w,h=>by simp[switchings]at h;rw[h];rfl
 |n+1,w,h=>by simp only[switchings,cN,c9]at h;rcases h with⟨v,hv,rfl⟩|⟨v,hv,rfl⟩<;>simp[vD n v hv]
theorem Co:∀n,(switchings n).length=2^n
 |0=>rfl
 |n+1=>by simp only[switchings,bL,aI,Co n,Nat.pow_succ];omega
theorem Ji{s:Net}(g:Good s)(w:List Bool)(hp:0<(points s).length):Vanetg.long s w= !decide ((Vanetg.trip s w 0).length<2*(points s).length):=by
 obtain⟨k,h1,h2,h3,h4,h5⟩:=B1 g w (p:=0) (by omega);unfold Vanetg.long;have e:(points s).isEmpty=false:=by cases h:points s with
  |nil=>rw[h]at hp;simp at hp
  |cons a r=>rfl
 have hl:(Vanetg.trip s w 0).length=k:=by rw[h5];simp
 rw[e,hl];simp only[xX,mV];by_cases c:k<2*(points s).length
 ·rw[decide_eq_true c]
  exact beq_eq_false_iff_ne.mpr (by omega)
 ·rw[decide_eq_false c]
  exact beq_iff_eq.mpr (by omega)
def idx{α:Type}(P:α->Bool):List α->Nat->List Nat
 |[],_=>[]
 |a::r,k=>if P a=true then k::idx P r (k+1)else idx P r (k+1)
theorem Cp{α β:Type}{P:α->Bool}{Q:β->Bool}:∀(l:List α) (m:List β) (k:Nat),l.length=m.length->(∀(i:Nat) (a:α) (b:β),l[i]? =some a->m[i]? =some b->P a=Q b)->idx P l k=idx Q m k
 |[],[],_,_,_=>rfl
 |[],b::m,_,h,_|a::l,[],_,h,_=>by simp at h
 |a::l,b::m,k,h,e=>by unfold idx;rw[e 0 a b U U,Cp l m (k+1) (by simpa using h) λi x y hx hy=>e (i+1) x y hx hy]
theorem Jj:∀(ps:List Point) (k:Nat),dS ps k=idx (λp=> !isJunction p) ps k
 |[],_=>rfl
 | .leaf::r,k| .tensor _ _::r,k| .par _ _::r,k=>by unfold dS idx;rw[Jj r];rfl
def vE(d9:Bool)(x:Nat×Point):Option Par:=match x.2 with
 | .tensor l r=>if d9=true then some (x.1,l,r)else none
 | .par l r=>if d9=true then none else some (x.1,l,r)
 | .leaf=>none
def gx(d9:Bool)(ps:List Point)(k:Nat):List Par:=((List.range' k ps.length).zip ps).filterMap (vE d9)
theorem Jk(d9:Bool)(p:Point)(ps:List Point)(k:Nat):gx d9 (p::ps) k=(match vE d9 (k,p)with|some x=>x::gx d9 ps (k+1)|none=>gx d9 ps (k+1)):=by unfold gx;rw[aX,qL,sR,iF];cases vE d9 (k,p)<;>rfl
theorem Jl{α β:Type}{f g:α->Option β}:∀{l:List α},(∀x∈l,f x=g x)->l.filterMap f=l.filterMap g
 |[],_=>rfl
 |a::r,h=>by rw[iF,iF,h a (by simp),Jl λx hx=>h x (by simp[hx])]
theorem yP(s:Net):pars s=gx false (points s) 0:=by unfold pars gx;rw[oh];congr 1;funext x;cases x with|mk a p=>cases p<;>rfl
theorem Jm(ps:List Point):tensorEdges ps=(gx true ps 0).flatMap λt=>[(t.1,t.2.1),(t.1,t.2.2)]:=by
 unfold tensorEdges;rw[oh];have:∀(ps:List Point) (k:Nat),((List.range' k ps.length).zip ps).flatMap (λx=>match x.2 with
   | .tensor l r=>[(x.1,l),(x.1,r)]
   |_=>[])=(gx true ps k).flatMap λt=>[(t.1,t.2.1),(t.1,t.2.2)]:=by
  intro ps;induction ps with
  |nil=>intro k;rfl
  |cons p r ih=>intro k;rw[aX,qL,sR,gE,ih,Jk];cases p<;>rfl
 exact this ps 0
theorem Jn(d9:Bool):∀(ps:List Point) (k:Nat),(gx d9 ps k).map (·.1)=idx (λp=>kd p==if d9=true then 2 else 3) ps k
 |[],_=>rfl
 |p::ps,k=>by rw[Jk];unfold idx;cases p<;>cases d9<;>simp[vE,kd,Jn]
theorem Cq{d9:Bool}{ps:List Point}{k:Nat}{t:Par}(h:t∈gx d9 ps k):∃p,t.1=k+p/\ (if d9=true then ps[p]? =some (.tensor t.2.1 t.2.2)else ps[p]? =some (.par t.2.1 t.2.2)):=by
 unfold gx at h;obtain⟨x,hx,e⟩:=sX.mp h;obtain⟨p,hp,ep⟩:=Bq.mp hx;rw[Br]at ep;have hl:p<ps.length:=by rw[List.length_zip,List.length_range']at hp;omega
 obtain⟨x1,x2⟩:=x;have e1:x1=k+p:=by have:=congrArg Prod.fst ep;simp at this;omega
 have e2:ps[p]? =some x2:=by rw[br hl];exact congrArg some (congrArg Prod.snd ep)
 refine⟨p,?_⟩;cases x2<;>cases d9<;>simp[vE]at e
 ·rw[<-e];exact⟨e1,e2⟩
 ·rw[<-e];exact⟨e1,e2⟩
theorem Cr:∀(ps:List Point) (k:Nat),(dS ps k).Pairwise (·<·)
 |[],_=> .nil
 | .leaf::r,k=>by show(k::dS r (k+1)).Pairwise (·<·);exact mW.mpr ⟨λx hx=>by have:=yu r (k+1) x hx;omega,Cr r (k+1)⟩
 | .tensor _ _::r,k| .par _ _::r,k=>Cr r (k+1)
theorem Jo:∀(fs:List Formula) (n:Nat),(rootsFrom n fs).Pairwise (·<·)
 |[],_=> .nil
 |A::r,n=>by show(n::rootsFrom (n+nodes A) r).Pairwise (·<·);exact mW.mpr ⟨λx hx=>by have:=vi r (n+nodes A) x hx;have:=fz A;omega,Jo r _⟩
theorem RM{l:List Nat}(h:l.Pairwise (·<·)){i j x y:Nat}(hi:l[i]? =some x)(hj:l[j]? =some y):i<j↔x<y:=by
 obtain⟨li,ei⟩:=cP.mp hi;obtain⟨lj,ej⟩:=cP.mp hj;have key:=xZ.mp h;constructor
 ·intro c;have:=key i j li lj c;rw[ei,ej]at this;exact this
 ·intro c
  rcases Nat.lt_trichotomy i j with q|q|q
  ·exact q
  ·subst q;rw[ei]at ej;omega
  ·have:=key j i lj li q;rw[ei,ej]at this;omega
def fg(f:Nat->Nat)(p:Nat):Option Edge:=if p<f p then some (p,f p)else none
theorem Jp{s:Net}(g:Good s):linkEdges (points s) s.to=(cv s).filterMap (fg (partner s)):=by
 have hl:(cv s).length=s.to.length:=by rw[g.len,gZ]
 have e1:cv s=(List.range s.to.length).map λi=>(cv s).getD i 0:=by
  apply x4;intro i;by_cases hi:i<s.to.length
  ·rw[ez,qK hi,br (by omega),lD,eX (br (by omega))]
  ·rw[jQ (by omega),jQ (by simp;omega)]
 have e2:(List.range s.to.length).zip s.to=(List.range s.to.length).map λi=>(i,s.to.getD i 0):=by
  apply x4;intro i;by_cases hi:i<s.to.length
  ·rw[ez,qK hi,uW (z:=(i,s.to[i]))|>.mpr ⟨qK hi,br hi⟩,lD,eX (br hi)]
  ·rw[jQ (by simp;omega),jQ (by simp;omega)]
 unfold linkEdges;rw[gZ];simp only;rw[e2]
 conv=>rhs;rw[e1]
 rw[List.filterMap_map,List.filterMap_map];apply Jl;intro i hi;rw[jq]at hi;obtain⟨t1,t2⟩:=g.toD hi;have gg:∀q,q<(cv s).length->(cv s)[q]? =some ((cv s).getD q 0):=λq hq=>by rw[br hq,eX (br hq)]
 have a:=gg i (by omega);have b:=gg (s.to.getD i 0) (by omega);have ep:partner s ((cv s).getD i 0)=(cv s).getD (s.to.getD i 0) 0:=by unfold partner;rw[gZ,yw (pL _ _) a]
 have st:=RM (Cr (points s) 0) a b;show(if i<s.to.getD i 0 then some ((cv s).getD i 0,(cv s).getD (s.to.getD i 0) 0)else none)=fg (partner s) ((cv s).getD i 0);unfold fg;rw[ep];by_cases c:i<s.to.getD i 0
 ·rw[if_pos c,if_pos (st.mp c)]
 ·rw[if_neg c,if_neg λz=>c (st.mpr z)]
def gc(s:Net)(r:Nat):Nat:=match standOf (stands s) r with
 | .cut q=>q
 |_=>r
theorem Jq(f:Nat->Nat):∀(l:List Nat),yr l.length->l.Pairwise (·<·)->(∀x y,(x,Stand.cut y)∈cutRoots l->f x=y)->inPairs l=l.filterMap (fg f)
 |[],_,_,_=>rfl
 |[x],⟨k,h⟩,_,_=>by simp at h;omega
 |x::y::r,⟨k,h⟩,hs,hf=>by
  have h1:=hf x y (by simp[cutRoots]);have h2:=hf y x (by simp[cutRoots]);have lt:x<y:=by have:=(mW.mp hs).1 y (by simp);exact this
  rw[inPairs,iF,iF];have u1:fg f x=some (x,y):=by unfold fg;rw[h1,if_pos lt]
  have u2:fg f y=none:=by unfold fg;rw[h2,if_neg (by omega)]
  rw[u1,u2];simp only;rw[Jq f r ⟨k-1,by simp at h;omega⟩ ((mW.mp (mW.mp hs).2).2) λa b g_=>hf a b (by simp[cutRoots,g_])]
theorem Jr{s:Net}(g:Good s):cutEdges s=(dR s).filterMap (fg (gc s)):=by
 have e:cutEdges s=inPairs (eV s):=rfl;have es:(dR s)=(dR s).take s.concl.length++eV s:=(uS _ _).symm;rw[e,Jq (gc s) (eV s) (vk s) ((Jo _ _).sublist (Bm _ _)) ?_]
 ·rw[es,uY]
  have:((dR s).take s.concl.length).filterMap (fg (gc s))=[]:=by
   rw[List.filterMap_eq_nil_iff];intro x hx;have hr:x∈dR s:=Bu hx;have nc:x∉eV s:=by intro c;have nd:=yq (formulas s) 0;rw[show rootsFrom 0 (formulas s)=dR s from rfl,es]at nd;have:=(qJ.mp nd).2.2 x hx x c;exact this U
   have nk:x∉keys (stands s):=by
    rw[BV];intro c;rcases cN.mp c with c|c
    ·exact(BS (formulas s) 0 g.mul).2.2 x hr c
    ·exact nc c
   have:standOf (stands s) x= .concl:=by unfold standOf;rw[Q8 nk]
   unfold fg gc;rw[this];simp
  rw[this,mS]
 ·intro x y h
  have:=ot (oq g.mul) (show(x,Stand.cut y)∈stands s by unfold stands;exact iY _ h);unfold gc;rw[this]
theorem RN{s:Net}(g:Good s):Ci (points s).length (edges s):=by
 have hn:(points s).length=bf (formulas s):=jV _ _ g.mul;intro e he;unfold edges at he;rw[Jm,Jp g,Jr g]at he;rcases cN.mp he with he|he
 ·obtain⟨t,ht,h⟩:=gn.mp he
  obtain⟨p,e1,e2⟩:=Cq ht;have hp:p<(points s).length:=(cP.mp e2).1;have k:=lK (formulas s) 0 p t.2.1 t.2.2 g.mul (.inl e2);simp at h;rcases h with rfl|rfl
  ·exact⟨by simp;omega,by simp;omega⟩
  ·exact⟨by simp;omega,by simp;omega⟩
 ·rcases cN.mp he with he|he
  ·obtain⟨p,hp,h⟩:=sX.mp he
   unfold fg at h;split at h
   ·have e:=ay h
    subst e;obtain⟨q,e1,e2⟩:=(vo _ _ _).mp hp;rw[ft]at e1;subst e1;have h1:=(cP.mp e2).1;have h2:=(cP.mp (g.Io e2).1).1;exact⟨h1,h2⟩
   ·cases h
  ·obtain⟨p,hp,h⟩:=sX.mp he
   have lp:=m7 _ _ p hp;unfold fg at h;split at h
   ·rename_i aU
    have e:=ay h;subst e;refine⟨by simp;omega,?_⟩;unfold gc at aU⊢;cases hs:standOf (stands s) p with
    |cut q=>
     have b8:standOf (stands s) p≠ .concl:=by rw[hs];intro z;cases z
     have:=Ii b8;rw[hs]at this;unfold stands at this;rcases cN.mp this with c|c
     ·rw[tE]at c
      obtain⟨j,x,_,hy⟩:=BU c;cases x<;>simp[iI]at hy
     ·obtain⟨y,h1,h2⟩:=vn _ _ _ c
      cases h1;have hq:q∈keys (cutRoots (eV s)):=c9.mpr ⟨_,h2,U⟩;rw[vj _ (vk s)]at hq;have:=m7 _ _ q (vm s q hq);simp only;omega
    |concl|tensor _ _ _|par _ _=>simp only;omega
   ·cases h
theorem Js{s:Net}(g:Good s):pO (points s).length (pars s):=by have hn:(points s).length=bf (formulas s):=jV _ _ g.mul;intro t ht;rw[yP]at ht;obtain⟨p,e1,e2⟩:=Cq ht;have e2:(points s)[p]? =some (.par t.2.1 t.2.2):=e2;have hp:p<(points s).length:=(cP.mp e2).1;have k:=lK (formulas s) 0 p t.2.1 t.2.2 g.mul (.inr e2);exact⟨by omega,by omega,by omega⟩
theorem RO{s:Net}(g:Good s)(links:List (Nat×Nat)):(arrOf s links).below=f_ 0 (formulas s)/\ (arrOf s links).sides=iK (formulas s)/\ (arrOf s links).seconds=i6 0 (formulas s)/\ (arrOf s links).nodes=(formulas s).flatMap enc:=by have e:=yA (formulas s) PA.empty g.mul ⟨U,U⟩;have e0:PA.empty.nodes.length=0:=rfl;rw[e0]at e;simp only[PA.empty,mS,ft]at e;unfold arrOf PA.empty;rw[e];exact⟨U,U,U,U⟩
theorem Jt{s:Net}{S:PA}(a:Arr s S)(d9:Bool):idx (λx=>x.1==if d9=true then 2 else 3) S.nodes 0=(gx d9 (points s) 0).map (·.1):=by
 rw[Jn];refine Cp _ _ 0 a.ln λi x p hx hp=>?_;cases p with
 |leaf=>obtain⟨⟨y,h1,h2⟩,_⟩:=a.leaf hp;rw[hx]at h1;have e:=ay h1;subst e;show(x.1==_)=(0==_);cases d9<;>simp<;>omega
 |tensor l r=>have h1:=(a.lO (k:=2) (.inl ⟨hp,U⟩)).1;rw[hx]at h1;have e:=ay h1;subst e;rfl
 |par l r=>have h1:=(a.lO (k:=3) (.inr ⟨hp,U⟩)).1;rw[hx]at h1;have e:=ay h1;subst e;rfl
theorem yQ{s:Net}{S:PA}(a:Arr s S):idx (λx=> !bR x) S.nodes 0=cv s:=by
 rw[show cv s=dS (points s) 0 from rfl,Jj];refine Cp _ _ 0 a.ln λi x p hx hp=>?_;cases p with
 |leaf=>obtain⟨⟨y,h1,h2⟩,_⟩:=a.leaf hp;rw[hx]at h1;have e:=ay h1;subst e;show(!decide (2<=x.1))=true;rw[decide_eq_false (by omega)];rfl
 |tensor l r=>have h1:=(a.lO (k:=2) (.inl ⟨hp,U⟩)).1;rw[hx]at h1;have e:=ay h1;subst e;rfl
 |par l r=>have h1:=(a.lO (k:=3) (.inr ⟨hp,U⟩)).1;rw[hx]at h1;have e:=ay h1;subst e;rfl
def dM:Token->Text
 | .name a=>a
 | .sign c=>[c]
 | .arrow=>[45,111]
def nj(c:UInt8):Bool:=c==126||(c==42||(c==124||(c==40||c==41)))
def shortName(t:Text):Bool:=(t.head?).any isSmall&&decide (t.length<=12)
def yR(c:UInt8)(r:Text):Text:=
 if isWord c=true then(if shortName (c::r.takeWhile isWord)=true then c::r.takeWhile isWord else[])
 else if nj c=true then[c]
 else if c=45/\ r.head? =some 111 then[45,111]
 else[]
theorem RP{c:UInt8}(h:isWord c=true):isSign c=false/\ nj c=false/\ c≠45/\ c≠32:=by
 have h':97<=c.toNat/\ c.toNat<=122\/48<=c.toNat/\ c.toNat<=57:=by unfold isWord isSmall at h;simp only[qI,bb,decide_eq_true_eq,UInt8.le_iff_toNat_le]at h;exact h
 have ne:∀n:UInt8,n.toNat<48\/(57<n.toNat/\ n.toNat<97)\/122<n.toNat->(c==n)=false:=by intro n hn;rw[beq_eq_false_iff_ne];intro e;subst e;omega
 have n126:=ne 126 (by decide);have n42:=ne 42 (by decide);have n124:=ne 124 (by decide);have n38:=ne 38 (by decide);have n43:=ne 43 (by decide);have n33:=ne 33 (by decide);have n63:=ne 63 (by decide);have n40:=ne 40 (by decide);have n41:=ne 41 (by decide);have n45:=ne 45 (by decide);have n32:=ne 32 (by decide);refine⟨?_,?_,beq_eq_false_iff_ne.mp n45,beq_eq_false_iff_ne.mp n32⟩
 ·unfold isSign;rw[n126,n42,n124,n38,n43,n33,n63,n40,n41];rfl
 ·unfold nj;rw[n126,n42,n124,n40,n41];rfl
theorem RQ{c:UInt8}(h:nj c=true):isSign c=true:=by unfold nj at h;unfold isSign;simp only[qI]at h⊢;rcases h with h|h|h|h|h<;>simp[h]
theorem takeWhile_all{p:UInt8->Bool}:∀r:Text,(r.takeWhile p).all p=true
 |[]=>rfl
 |a::r=>by
  rw[x5];split
  ·rw[iB,takeWhile_all r];simp[*]
  ·rfl
theorem RR{c:UInt8}{r:Text}(h:isWord c=true):isName (c::r.takeWhile isWord)=shortName (c::r.takeWhile isWord):=by unfold isName shortName;rw[iB,h,takeWhile_all];simp
theorem RS(c:UInt8)(r:Text):yR c r=match lI c r with
  |some x=>dM x.1
  |none=>[]:=by
 unfold yR lI one?;by_cases hw:isWord c=true
 ·obtain⟨h1,h2,h3,_⟩:=RP hw
  rw[if_pos hw,if_neg (c:=isSign c=true) (by rw[h1];simp),if_neg h3,if_pos hw,RR hw];by_cases hn:shortName (c::r.takeWhile isWord)=true
  ·rw[if_pos hn,if_pos hn];rfl
  ·rw[if_neg hn,if_neg hn];rfl
 ·rw[if_neg hw]
  by_cases hf:nj c=true
  ·rw[if_pos hf,if_pos (RQ hf)]
   show[c]=match Option.filter _ (some (Token.sign c,r))with
    |some x=>dM x.1
    |none=>[]
   rw[x6,if_pos (show fu (.sign c)=true from hf)];rfl
  ·rw[if_neg hf]
   by_cases hs:isSign c=true
   ·rw[if_pos hs,x6,if_neg (show¬fu (.sign c)=true from hf)]
    have:¬(c=45/\ r.head? =some 111):=by rintro⟨rfl,_⟩;exact absurd hs (by decide)
    rw[if_neg this]
   ·rw[if_neg hs]
    by_cases Cs:c=45
    ·subst Cs
     rw[if_pos (c:=(45:UInt8)=45) U];cases r with
     |nil=>rw[if_neg (by simp)];rfl
     |cons a q=>
      by_cases ha:a=111
      ·subst ha;rw[if_pos ⟨U,U⟩];rfl
      ·rw[if_neg (by rintro⟨_,h⟩;exact ha (ay h))]
       have:arr? (a::q)=none:=by
        unfold arr?;split
        ·rename_i s e;cases e;exact absurd U ha
        ·rfl
       rw[this];rfl
    ·rw[if_neg Cs,if_neg λh=>Cs h.1,if_neg hw];rfl
theorem yS{c:UInt8}{r:Text}{x:Token×Text}(h:lI c r=some x):c::r=dM x.1++x.2/\ dM x.1≠ []/\ fu x.1=true:=by
 unfold lI at h;rw[x8]at h;obtain⟨h,ok⟩:=h;refine⟨?_,?_,ok⟩
 all_goals
  unfold one? at h;split at h
  ·have e:=ay h;subst e;simp[dM]
  ·split at h
   ·unfold arr? at h
    split at h
    ·have e:=ay h
     subst e;simp[dM, *]
    ·cases h
   ·split at h
    ·split at h
     ·have e:=ay h;subst e;simp[dM]
     ·cases h
    ·cases h
def gK:Pd->List Node
 | .cf _ A| .arr A=>enc A
 |_=>[]
def dA:Pd->Nat
 | .gp=>126
 | .gF=>40
 | .cf b _=>if b=true then 124 else 42
 | .arr _=>45
def Ju:Pd->Prop
 | .cf _ A| .arr A=>multiplicative A=true
 |_=>True
def cV:List Pd->Nat
 |[]=>0
 |e::r=>(gK e).length+1+cV r
def jX(p:List Pd):Prop:=∀e∈p,Ju e
theorem Jv{b:Bool}{A B:Formula}(hA:multiplicative A=true)(hB:multiplicative B=true):multiplicative (kN b A B)=true:=by unfold kN;split<;>simp[multiplicative,hA,hB]
theorem yT(b:Bool)(A B:Formula):enc (kN b A B)=((if b=true then 3 else 2),[])::(enc A++enc B):=by unfold kN;cases b<;>rfl
theorem yU(A B:Formula):enc (.par A B)=(3,[])::(enc A++enc B):=rfl
theorem Jw:∀(p:List Pd) (A:Formula),multiplicative A=true->jX p->multiplicative (eN A p).1=true/\ jX (eN A p).2/\ (enc (eN A p).1).length+cV (eN A p).2<=(enc A).length+cV p
 |[],A,h,hp=>⟨h,hp,aM _⟩
 | .gp::r,A,h,hp=>by have ih:=Jw r (dual A) (by rw[jT];exact h) λe he=>hp e (by simp[he]);refine⟨ih.1,ih.2.1,?_⟩;have:=ih.2.2;rw[jS,aI]at this;simp only[eN,cV,gK,kI];omega
 | .gF::r,A,h,hp| .cf b B::r,A,h,hp| .arr B::r,A,h,hp=>⟨h,hp,aM _⟩
theorem yV:∀(p:List Pd) (A:Formula),multiplicative A=true->jX p->multiplicative (de A p).1=true/\ jX (de A p).2/\ (enc (de A p).1).length+cV (de A p).2<=(enc A).length+cV p
 |[],A,h,hp=>⟨h,hp,aM _⟩
 | .cf b B::r,A,h,hp=>by have hB:multiplicative B=true:=hp (.cf b B) (by simp);have ih:=yV r (kN b B A) (Jv hB h) λe he=>hp e (by simp[he]);refine⟨ih.1,ih.2.1,?_⟩;have:=ih.2.2;rw[yT,aX,bL]at this;simp only[de,cV,gK];omega
 | .gp::r,A,h,hp| .gF::r,A,h,hp| .arr B::r,A,h,hp=>⟨h,hp,aM _⟩
theorem Jx:∀(p:List Pd) (A:Formula),multiplicative A=true->jX p->multiplicative (jR A p).1=true/\ jX (jR A p).2/\ (enc (jR A p).1).length+cV (jR A p).2<=(enc A).length+cV p
 |[],A,h,hp=>⟨h,hp,aM _⟩
 | .arr B::r,A,h,hp=>by have hB:multiplicative B=true:=hp (.arr B) (by simp);have ih:=Jx r (.par (dual B) A) (by simp[multiplicative,jT,hB,h]) λe he=>hp e (by simp[he]);refine⟨ih.1,ih.2.1,?_⟩;have:=ih.2.2;rw[yU,aX,bL,jS,aI]at this;simp only[jR,cV,gK];omega
 | .gp::r,A,h,hp| .gF::r,A,h,hp| .cf b B::r,A,h,hp=>⟨h,hp,aM _⟩
theorem Ct(p:List Pd)(A:Formula)(h:multiplicative A=true)(hp:jX p):multiplicative (gq A p).1=true/\ jX (gq A p).2/\ (enc (gq A p).1).length+cV (gq A p).2<=(enc A).length+cV p:=by have h1:=yV p A h hp;have h2:=Jx _ _ h1.1 h1.2.1;exact⟨h2.1,h2.2.1,cO h2.2.2 h1.2.2⟩
def ie:Option Formula->List Node
 |some A=>enc A
 |none=>[]
def RT:Option Formula->Prop
 |some A=>multiplicative A=true
 |none=>True
def jy(s:MS):Nat:=(ie s.form).length+cV s.pend
def iM:List Node->Nat->Option Nat
 |[],n=>some n
 |x::r,n=>(iM r n).bind λm=>if bR x=true then(if 2<=m then some (m-1)else none)else some (m+1)
theorem Cu:∀(a b:List Node) (n:Nat),iM (a++b) n=(iM b n).bind (iM a)
 |[],b,n=>by show iM b n=_;cases iM b n<;>rfl
 |x::r,b,n=>by show(iM (r++b) n).bind _=_;rw[Cu r b n];cases iM b n<;>rfl
theorem Cv:∀(A:Formula),multiplicative A=true->∀n,iM (enc A) n=some (n+1)
 | .atom b a,_,n=>by cases b<;>rfl
 | .tensor A B,h,n| .par A B,h,n=>by simp only[multiplicative,bb]at h;show(iM (enc A++enc B) n).bind _=_;rw[Cu,Cv B h.2,cY,Cv A h.1,cY];show(if 2<=n+1+1 then some (n+1+1-1)else none)=some (n+1);rw[if_pos (by omega)];rfl
 | .wth A B,h,_| .plus A B,h,_| .ofc A,h,_| .whn A,h,_=>by simp[multiplicative]at h
theorem RU{a b:List Node}{n m:Nat}(h:iM (a++b) n=some m):∃k,iM b n=some k:=by rw[Cu]at h;obtain⟨k,h1,_⟩:=cC.mp h;exact⟨k,h1⟩
theorem Jy:∀(l:List Node) (m:Nat),iM l 0=some m->(l.foldr mZ []).length=m
 |[],m,h=>by have:0=m:=ay h;rw[<-this];rfl
 |x::r,m,h=>by
  obtain⟨k,h1,h2⟩:=cC.mp h;have ih:=Jy r k h1;rw[nW];generalize r.foldr mZ []=st at ih⊢;unfold mZ;split at h2
  ·rename_i hj
   rw[if_pos hj];split at h2
   ·have e:=ay h2
    match st,ih with
    |a::b::q,ih=>simp at ih⊢;omega
    |[a],ih|[],ih=>simp at ih;omega
   ·cases h2
  ·rename_i hj
   rw[if_neg hj,aX,ih];exact ay h2
theorem Jz:∀(l:List Node) (m:Nat),iM l 0=some m->(l.foldr gW []).length=m
 |[],m,h=>by have:0=m:=ay h;rw[<-this];rfl
 |x::r,m,h=>by
  obtain⟨k,h1,h2⟩:=cC.mp h;have ih:=Jz r k h1;rw[nW];generalize r.foldr gW []=st at ih⊢;unfold gW;split at h2
  ·rename_i hj
   rw[if_pos hj];split at h2
   ·have e:=ay h2
    match st,ih with
    |a::b::q,ih=>simp at ih⊢;omega
    |[a],ih|[],ih=>simp at ih;omega
   ·cases h2
  ·rename_i hj
   rw[if_neg hj,aX,ih];exact ay h2
theorem Cw:∀(l:List Node) (m:Nat),iM l 0=some m->m<=l.length
 |[],m,h=>by have:0=m:=ay h;omega
 |x::r,m,h=>by
  obtain⟨k,h1,h2⟩:=cC.mp h;have ih:=Cw r k h1;rw[aX];split at h2
  ·split at h2
   ·have:=ay h2;omega
   ·cases h2
  ·have:=ay h2;omega
theorem JA{A:Formula}(h:multiplicative A=true){i:Nat}{x:Node}(hx:(enc A).reverse[i]? =some x):
  (enc A).drop ((enc A).length-(i+1))=x::(enc A).drop ((enc A).length-i)/\ ∃k,iM ((enc A).drop ((enc A).length-i)) 0=some k/\ (bR x=true->2<=k):=by
 have hi:i<(enc A).length:=by have:=(cP.mp hx).1;simpa using this
 rw[xS hi]at hx;have hd:(enc A).drop ((enc A).length-(i+1))=x::(enc A).drop ((enc A).length-i):=by
  have e:(enc A).length-1-i=(enc A).length-(i+1):=by omega
  rw[e]at hx;obtain⟨hl,ex⟩:=cP.mp hx;rw[jP hl,ex];congr 2;omega
 refine⟨hd,?_⟩;have hw:=Cv A h 0;have e2:enc A=(enc A).take ((enc A).length-(i+1))++(enc A).drop ((enc A).length-(i+1)):=(uS _ _).symm;rw[e2]at hw;obtain⟨m,hm⟩:=RU hw;rw[hd]at hm;obtain⟨k,h1,h2⟩:=cC.mp hm;refine⟨k,h1,λhj=>?_⟩;rw[if_pos hj]at h2;split at h2
 ·assumption
 ·cases h2
def nm(l:List Node):Prop:=∀x∈l,x.2.length<=12
theorem yW:nm []:=λx h=>by simp at h
theorem JB{a b:List Node}(h:nm a)(k:nm b):nm (a++b):=λx hx=>(cN.mp hx).elim (h x) (k x)
theorem JC{k:Nat}{a:List Node}(h:nm a):nm ((k,[])::a):=λx hx=>by
 rcases a_.mp hx with rfl|hx
 ·simp
 ·exact h x hx
theorem JD{A:Formula}(h:nm (enc A)):nm (enc (dual A)):=by rw[jS];intro x hx;obtain⟨y,hy,rfl⟩:=c9.mp hx;exact h y hy
def lV(p:List Pd):Prop:=∀e∈p,nm (gK e)
theorem JE:∀(p:List Pd) (A:Formula),nm (enc A)->lV p->nm (enc (eN A p).1)/\ lV (eN A p).2
 |[],A,h,hp=>⟨h,hp⟩
 | .gp::r,A,h,hp=>JE r (dual A) (JD h) λe he=>hp e (by simp[he])
 | .gF::r,A,h,hp| .cf b B::r,A,h,hp| .arr B::r,A,h,hp=>⟨h,hp⟩
theorem Cy:∀(p:List Pd) (A:Formula),nm (enc A)->lV p->nm (enc (de A p).1)/\ lV (de A p).2
 |[],A,h,hp=>⟨h,hp⟩
 | .cf b B::r,A,h,hp=>Cy r (kN b B A) (by rw[yT];exact JC (JB (hp (.cf b B) (by simp)) h)) λe he=>hp e (by simp[he])
 | .gp::r,A,h,hp| .gF::r,A,h,hp| .arr B::r,A,h,hp=>⟨h,hp⟩
theorem JF:∀(p:List Pd) (A:Formula),nm (enc A)->lV p->nm (enc (jR A p).1)/\ lV (jR A p).2
 |[],A,h,hp=>⟨h,hp⟩
 | .arr B::r,A,h,hp=>JF r (.par (dual B) A) (by rw[yU];exact JC (JB (JD (hp (.arr B) (by simp))) h)) λe he=>hp e (by simp[he])
 | .gp::r,A,h,hp| .gF::r,A,h,hp| .cf b B::r,A,h,hp=>⟨h,hp⟩
structure nq(s:MS):Prop where
 mul:RT s.form
 gy:jX s.pend
 nm:nm (ie s.form)
 rh:lV s.pend
theorem JG(p:List Pd)(A:Formula)(h:nm (enc A))(hp:lV p):nm (enc (gq A p).1)/\ lV (gq A p).2:=by have h1:=Cy p A h hp;exact JF _ _ h1.1 h1.2
def vF:Token->Prop
 | .name a=>a.length<=12
 |_=>True
theorem yX{e:Pd}{p:List Pd}{s':MS}(h:push e p=some s')(h1:Ju e)(h2:jX p)(h3:nm (gK e))(h4:lV p):nq s'/\ jy s'=(gK e).length+1+cV p:=by
 unfold push at h;split at h
 ·have e:=ay h
  subst e;refine⟨⟨trivial,λx hx=>?_,yW,λx hx=>?_⟩,?_⟩
  ·rcases a_.mp hx with rfl|hx
   ·exact h1
   ·exact h2 x hx
  ·rcases a_.mp hx with rfl|hx
   ·exact h3
   ·exact h4 x hx
  ·show 0+((gK _).length+1+cV p)=_;omega
 ·cases h
theorem JH{A:Formula}{p:List Pd}(h1:multiplicative A=true)(h2:jX p)(h3:nm (enc A))(h4:lV p):nq ⟨some (eN A p).1,(eN A p).2⟩/\ jy ⟨some (eN A p).1,(eN A p).2⟩<=(enc A).length+cV p:=by have a:=Jw p A h1 h2;have b:=JE p A h3 h4;exact⟨⟨a.1,a.2.1,b.1,b.2⟩,a.2.2⟩
theorem JI{s s':MS}{k:Token}(h:take s k=some s')(o:nq s)(hk:vF k):nq s'/\ jy s'<=jy s+1:=by
 obtain⟨f,p⟩:=s;unfold take at h;cases f with
 |none=>
  simp only at h;cases k with
  |name a=>have e:=ay h;subst e;have:=JH (A:= .atom false a) (p:=p) U o.gy (λx hx=>by simp[enc]at hx;rw[hx];exact hk) o.rh;refine⟨this.1,cO this.2 ?_⟩;show 1+cV p<=0+cV p+1;omega
  |sign c=>
   simp only at h;split at h
   ·have:=yX h trivial o.gy yW o.rh
    refine⟨this.1,?_⟩;rw[this.2];show 0+1+cV p<=0+cV p+1;omega
   ·split at h
    ·have:=yX h trivial o.gy yW o.rh
     refine⟨this.1,?_⟩;rw[this.2];show 0+1+cV p<=0+cV p+1;omega
    ·cases h
  |arrow=>cases h
 |some A=>
  have hA:multiplicative A=true:=o.mul;have nA:nm (enc A):=o.nm;have chain:∀b,i5 b A p=some s'->nq s'/\ jy s'<=jy ⟨some A,p⟩+1:=by
   intro b h;have key:push (.cf b A) p=some s':=by
    unfold i5 at h;split at h
    ·split at h
     ·exact h
     ·cases h
    ·exact h
   have:=yX key hA o.gy nA o.rh;refine⟨this.1,?_⟩;rw[this.2];show(enc A).length+1+cV p<=(enc A).length+cV p+1;omega
  simp only at h;cases k with
  |name a=>cases h
  |sign c=>
   simp only at h;split at h
   ·exact chain _ h
   ·split at h
    ·exact chain _ h
    ·split at h
     ·unfold takeRight at h
      have a:=Ct p A hA o.gy;have b:=JG p A nA o.rh;split at h
      ·rename_i B r he
       rw[he]at a b;have e:=ay h;subst e;have:=JH (A:=B) (p:=r) a.1 (λx hx=>a.2.1 x (by simp[hx])) b.1 (λx hx=>b.2 x (by simp[hx]));refine⟨this.1,cO this.2 ?_⟩;have c:=a.2.2;simp only[cV,gK,kI]at c;show _<=(enc A).length+cV p+1;omega
      ·cases h
     ·cases h
  |arrow=>simp only at h;have a:=yV p A hA o.gy;have b:=Cy p A nA o.rh;have:=yX h a.1 a.2.1 b.1 b.2;refine⟨this.1,?_⟩;rw[this.2];have c:=a.2.2;show _<=(enc A).length+cV p+1;simp only[gK];omega
theorem JJ:∀(ts:List Token) (s:MS) (A:Formula),run s ts=some A->nq s->(∀k∈ts,vF k)->multiplicative A=true/\ nm (enc A)/\ nodes A<=jy s+ts.length
 |[],s,A,h,o,_=>by
  obtain⟨f,p⟩:=s;unfold run whole at h;cases f with
  |none=>cases h
  |some B=>
   simp only at h;have a:=Ct p B o.mul o.gy;have b:=JG p B o.nm o.rh;split at h
   ·rename_i C he
    rw[he]at a b;have e:=ay h;subst e;refine⟨a.1,b.1,?_⟩;have c:=a.2.2;rw[bJ]at c;simp only[cV]at c;show _<=(enc B).length+cV p+0;omega
   ·cases h
 |k::r,s,A,h,o,hk=>by
  unfold run at h;cases ht:take s k with
  |none=>rw[ht]at h;cases h
  |some s'=>rw[ht]at h;have t:=JI ht o (hk k (by simp));have ih:=JJ r s' A h t.1 λx hx=>hk x (by simp[hx]);refine⟨ih.1,ih.2.1,cO ih.2.2 ?_⟩;rw[aX];have:=t.2;omega
theorem RV{c:UInt8}{r:Text}{x:Token×Text}(h:lI c r=some x):vF x.1:=by
 unfold lI at h;rw[x8]at h;have h:=h.1;unfold one? at h;split at h
 ·have e:=ay h;subst e;trivial
 ·split at h
  ·unfold arr? at h
   split at h
   ·have e:=ay h;subst e;trivial
   ·cases h
  ·split at h
   ·split at h
    ·rename_i hn
     have e:=ay h;subst e;unfold isName at hn;simp only[bb,decide_eq_true_eq]at hn;exact hn.2.1
    ·cases h
   ·cases h
theorem vG:∀(n:Nat) (t:Text) (ts:List Token),t.length<=n->toks t=some ts->(∀k∈ts,vF k/\ fu k=true)/\ ts.length<=t.length
 |n,[],ts,_,h=>by rw[BI]at h;have e:=ay h;subst e;exact⟨λk hk=>by simp at hk,aM _⟩
 |0,c::r,ts,hn,h=>by simp at hn
 |n+1,c::r,ts,hn,h=>by
  rw[BJ]at h;rw[aX]at hn;split at h
  ·have ih:=vG n r ts (by omega) h
   exact⟨ih.1,by rw[aX];omega⟩
  ·obtain⟨x,hx,h⟩:=cC.mp h
   obtain⟨l,hl,e⟩:=eu.mp h;subst e;have sp:=yS hx;have hle:x.2.length+1<=r.length+1:=by have:=congrArg List.length sp.1;rw[aX,bL]at this;have:0<(dM x.1).length:=qQ.mpr sp.2.1;omega
   have ih:=vG n x.2 l (by omega) hl;refine⟨λk hk=>?_,by rw[aX,aX];omega⟩;rcases a_.mp hk with rfl|hk
   ·exact⟨RV hx,sp.2.2⟩
   ·exact ih.1 k hk
theorem JK:nq ⟨none,[]⟩:=⟨trivial,λ_ h=>by simp at h,yW,λ_ h=>by simp at h⟩
theorem JL{t:Text}{A:Formula}(h:gX t=some A):multiplicative A=true/\ nm (enc A)/\ nodes A<=2000:=by
 unfold gX at h;split at h
 ·cases h
 ·obtain⟨ts,h1,h2⟩:=cC.mp h
  have k:=vG _ t ts (aM _) h1;have r:=JJ ts _ A h2 JK λx hx=>(k.1 x hx).1;refine⟨r.1,r.2.1,?_⟩;have:=r.2.2;have e:jy ⟨none,[]⟩=0:=rfl;omega
def pT:List Node->Nat
 |[]=>0
 |x::r=>x.2.length+5+pT r
theorem yY:∀{l:List Node},nm l->pT l<=17*l.length
 |[],_=>aM _
 |x::r,h=>by have:=yY (l:=r) λy hy=>h y (by simp[hy]);have:=h x (by simp);simp only[pT,aX];omega
def wsum:List Wr->Nat
 |[]=>0
 |x::r=>x.2.length+wsum r
theorem JM(b:Bool)(t:Text):(paren b t).length<=t.length+2:=by unfold paren;split<;>simp
theorem Cz:∀(l:List Node),wsum (l.foldr gW [])<=pT l
 |[]=>aM _
 |x::r=>by
  have ih:=Cz r;rw[nW];generalize r.foldr gW []=st at ih⊢;unfold gW;split
  ·split
   ·rename_i a b q
    simp only[wsum,pT]at ih⊢;have h1:=JM (decide (2<=a.1)) a.2;have h2:=JM (decide (2<=b.1)&&b.1 !=x.1) b.2;unfold oj;rw[bL,aX];omega
   ·simp only[pT];omega
  ·simp only[wsum,pT]
   have:(qV x).length<=x.2.length+1:=by unfold qV;split<;>simp
   omega
theorem JN{A:Formula}(h:multiplicative A=true):(form A).length<=pT (enc A):=by have:=Cz (enc A);rw[tp A h]at this;simpa [wsum]using this
end PM
section
namespace L2
open PySem PySem.Spec PyProof.Rows
abbrev Key:=Sum Int Str
def tO:Key->Value->Bool
 | .inl k,v=>Value.isInt k v
 | .inr x,v=>Value.isStrOf x v
def RW(w:World):Key->Int
 | .inl k=>hashInt k
 | .inr x=>hashStr w x
theorem oy:∀{k:Key} {v:Value},tO k v=true->(∃i t,k=Sum.inl i/\ v=Value.int i t)\/(∃x t,k=Sum.inr x/\ v=Value.str x t)
 | .inl i,v,h=>by obtain⟨t,e⟩:=Value.isInt_shape (k:=i) (v:=v) h;exact .inl ⟨i,t,U,e⟩
 | .inr x,v,h=>by obtain⟨t,e⟩:=Value.isStrOf_shape (x:=x) (v:=v) h;exact .inr ⟨x,t,U,e⟩
theorem RX(i:Int)(t:Tok):tO (.inl i) (.int i t)=true:=by simp[tO,Value.isInt]
theorem RY(x:Str)(t:Tok):tO (.inr x) (.str x t)=true:=by simp[tO,Value.isStrOf]
theorem RZ(a b:Int):decide ((Sum.inl a:Key)=Sum.inl b)=(a==b):=by
 by_cases e:a=b
 ·subst e;simp
 ·have h:¬(Sum.inl a:Key)=Sum.inl b:=λq=>e (Sum.inl.inj q)
  rw[decide_eq_false h];exact(beq_eq_false_iff_ne.mpr e).symm
theorem R_(a b:Str):decide ((Sum.inr a:Key)=Sum.inr b)=decide (a=b):=by
 by_cases e:a=b
 ·subst e;simp
 ·have h:¬(Sum.inr a:Key)=Sum.inr b:=λq=>e (Sum.inr.inj q)
  rw[decide_eq_false h,decide_eq_false e]
theorem R'(a:Int)(b:Str):decide ((Sum.inl a:Key)=Sum.inr b)=false:=decide_eq_false (λq=>nomatch q)
theorem Sa(a:Str)(b:Int):decide ((Sum.inr a:Key)=Sum.inl b)=false:=decide_eq_false (λq=>nomatch q)
def jY(prog:Program)(w:World):PySem.KeyKind prog w Key where
 is:=tO
 hash:=RW w
 inj:=λv a b ha hb=>by
  rcases oy ha with⟨i,t,rfl,rfl⟩|⟨x,t,rfl,rfl⟩
  ·rcases oy hb with⟨j,u,rfl,e⟩|⟨y,u,rfl,e⟩
   ·injection e with e1 _;rw[e1]
   ·exact nomatch e
  ·rcases oy hb with⟨j,u,rfl,e⟩|⟨y,u,rfl,e⟩
   ·exact nomatch e
   ·injection e with e1 _;rw[e1]
 byValue:=λk v h=>by rcases oy h with⟨i,t,rfl,rfl⟩|⟨x,t,rfl,rfl⟩<;>rfl
 pyHash:=λhv h=>by
  rcases oy hv with⟨i,t,rfl,rfl⟩|⟨x,t,rfl,rfl⟩
  ·exact wpAny_pyHash_int h
  ·exact wpAny_pyHash_str h
 eqBool:=λhu hv h=>by
  rcases oy hu with⟨i,t,rfl,rfl⟩|⟨x,t,rfl,rfl⟩
  ·rcases oy hv with⟨j,u,rfl,rfl⟩|⟨y,u,rfl,rfl⟩
   ·rw[RZ]at h;exact wpAny_eqBool_int h
   ·rw[R']at h;exact SeqAt.EqAt.int_str i t y u _ _ _ _ h
  ·rcases oy hv with⟨j,u,rfl,rfl⟩|⟨y,u,rfl,rfl⟩
   ·rw[Sa]at h;exact SeqAt.EqAt.str_int x t j u _ _ _ _ h
   ·rw[R_]at h;exact wpAny_eqBool_str h
 «strs»:=λk x t v h=>by
  rcases oy h with⟨i,u,rfl,e⟩|⟨y,u,rfl,e⟩
  ·exact nomatch e
  ·injection e with e1 _
   subst e1;cases v<;>rfl
theorem Sb(prog:Program)(w:World)(i:Int)(t:Tok):(jY prog w).is (.inl i) (.int i t)=true:=RX i t
theorem Sd(prog:Program)(w:World)(x:Str)(t:Tok):(jY prog w).is (.inr x) (.str x t)=true:=RY x t
end L2
namespace L2
open PySem PySem.Spec PyProof.Rows
inductive V where
 |aO|bl (b:Bool)|int (i:Int)|str (x:Str)|iN (b:Array UInt8)|flt (b:UInt64)|ref (a:Addr)|ty (n:String)
 deriving DecidableEq
def RelV:V->Value->Prop
 | .aO,u=>u=Value.none
 | .bl b,u=>u=Value.bool b
 | .int i,u=>∃t,u=Value.int i t
 | .str x,u=>∃t,u=Value.str x t
 | .iN b,u=>∃t,u=Value.bytes b t
 | .flt b,u=>∃t,u=Value.float b t
 | .ref a,u=>u=Value.ref a
 | .ty n,u=>u=Value.type n
abbrev Vals:List V->List Value->Prop:=Paired RelV
theorem Vals.length{xs:List V}{us:List Value}(r:Vals xs us):xs.length=us.length:=Paired.length r
theorem Vals.get:∀{xs:List V} {us:List Value} {i:Nat} {x:V},Vals xs us->xs[i]? =some x->∃u,us[i]? =some u/\ RelV x u
 |_,_,_,_, .nil,e=>by simp at e
 |_,_,0,_, .cons r _,e=>by simp at e;subst e;exact⟨_,U,r⟩
 |_,_,i+1,x, .cons _ t,e=>by obtain⟨u,h1,h2⟩:=Vals.get (i:=i) (x:=x) t (by simpa using e);exact⟨u,by simpa using h1,h2⟩
theorem Vals.set{x:V}{u:Value}(r:RelV x u):∀{xs:List V} {us:List Value} (i:Nat),Vals xs us->Vals (xs.set i x) (us.set i u)
 |_,_,_, .nil=> .nil
 |_,_,0, .cons _ t=> .cons r t
 |_,_,i+1, .cons q t=> .cons q (Vals.set r i t)
theorem Vals.append:∀{xs ys:List V} {us ws:List Value},Vals xs us->Vals ys ws->Vals (xs++ys) (us++ws)
 |_,_,_,_, .nil,s=>s
 |_,_,_,_, .cons r t,s=> .cons r (Vals.append t s)
theorem Vals.take:∀{xs:List V} {us:List Value} (n:Nat),Vals xs us->Vals (xs.take n) (us.take n)
 |_,_,0,_|_,_,_+1, .nil=> .nil
 |_,_,n+1, .cons r t=> .cons r (Vals.take n t)
theorem Vals.drop:∀{xs:List V} {us:List Value} (n:Nat),Vals xs us->Vals (xs.drop n) (us.drop n)
 |_,_,0,r=>r
 |_,_,_+1, .nil=> .nil
 |_,_,n+1, .cons _ t=>Vals.drop n t
def iO:Option V->Option Value->Prop
 |some v,some u=>RelV v u
 |none,none=>True
 |_,_=>False
def KV{κ:Type}:List (κ×V)->List (κ×Value)->Prop:=Paired λ(p:κ×V) (q:κ×Value)=>p.1=q.1/\ RelV p.2 q.2
def kV:Key->V
 | .inl i=> .int i
 | .inr x=> .str x
inductive HO where
 |lst (xs:List V)
 |tup (xs:List V)
 |dK (ax:List (Key×V))|dT (ax:List (List Key×V))
 |set (S:Int->Bool) (n:Nat)
 |ins (C dx:Addr) (fs:List (Str×V))
 |own (x:Addr)
 |xd (fs:List (Str×V))
 |met (f x:Addr)
 |rj (lo hi:Int)
 |fS (o:Obj) (u:HO)
 |rk (ps:Array Value)
 |ext (φ:Heap->Prop)
abbrev Hp:=Addr->Option HO
def upd(H:Hp)(a:Addr)(o:HO):Hp:=λb=>if b=a then some o else H b
theorem ae{H:Hp}{a:Addr}{o:HO}:upd H a o a=some o:=by unfold upd;rw[if_pos U]
theorem aD{H:Hp}{a b:Addr}{o:HO}(h:b≠a):upd H a o b=H b:=by unfold upd;rw[if_neg h]
theorem jz{H:Hp}{a:Addr}{o u:HO}:upd (upd H a o) a u=upd H a u:=by funext b;unfold upd;split<;>rfl
theorem ig{H:Hp}{a b:Addr}{o u:HO}(h:H a=some o)(h':H b=some u)(d:o≠u):a≠b:=by intro e;subst e;rw[h]at h';exact d (ay h')
theorem bS{H:Hp}{a b:Addr}{o:HO}(h:H a=some o)(h':H b=none):a≠b:=by intro e;subst e;rw[h]at h';cases h'
section
variable(P:Program)(w:World)
def dU(H:Hp)(h:Heap)(a:Addr):HO->Prop
 | .lst xs=>xs.length<=sizeLine/\ ∃(ai:List Value) (n:Nat),Vals xs ai/\ h.get? a=some {cls:= .type "list",data:= .seq ai.toArray n}
 | .tup xs=>xs.length<=sizeLine/\ ∃ai:List Value,Vals xs ai/\ IsTup h a ai.toArray
 | .dK ax=>ax.length<=sizeLine/\ (a==sysModules)=false/\ ∃vs,KV ax vs/\ h.DictOf (jY P w) a vs
 | .dT ax=>ax.length<=sizeLine/\ (a==sysModules)=false/\ ∃xs:List (List Key×Addr×Value),
   Paired (λ(p:List Key×V) (q:List Key×Addr×Value)=>p.1=q.1/\ H q.2.1=some (.tup (p.1.map kV))/\ RelV p.2 q.2.2) ax xs/\
   ∃o es ep,h.get? a=some o/\ o.ExactDict/\ o.data= .dict es ep/\ es.toList=xs.map (entryOfKey (tupleKind (jY P w)))/\ (xs.map (·.1)).Nodup
 | .set S n=>h.SetOf (intKind P w) a S n
 | .ins C dx fs=>H dx=some (.own a)/\ fs.length<=1000/\ dx≠a/\ h.get? a=some (PySem.W.instObj C dx)/\
   ∃mA,h.Ns1 dx mA/\ (∀f,iO (fs.lookup f) (mA f))/\ PySem.Within mA (fs.map (·.1))
 | .own _=>∃o,h.get? a=some o
 | .xd fs=>∃mA,h.Ns1 a mA/\ ∀f,iO (fs.lookup f) (mA f)
 | .rj lo hi=>∃t u v,h.get? a=some {cls:= .type "range",data:= .fields #[.int lo t, .int hi u, .int 1 v]}
 | .fS o u=>h.get? a=some o/\ dU H h a u
 | .rk ps=>h.get? a=some {cls:= .none,data:= .fields ps}
 | .met f x=>h.get? a=some (PySem.W.methodObj (.ref f) (.ref x))
 | .ext φ=>φ h/\ (∃o,h.get? a=some o)/\ ∀h1 h2:Heap,φ h1->(∀o,h1.get? a=some o->h2.get? a=some o)->φ h2
def du(H:Hp)(h:Heap):Prop:=∀a o,H a=some o->dU P w H h a o
end
section
variable{P:Program}{w:World}{H H':Hp}{h h':Heap}{a:Addr}{o:HO}
theorem dU.lt(x:dU P w H h a o):a<h.objs.size:=by
 cases o with
 |lst xs=>obtain⟨_,_,_,_,e⟩:=x;exact Heap.lt_size e
 |tup xs=>obtain⟨_,_,_,p⟩:=x;exact p.lt
 |dK ax|dT ax=>obtain⟨_,_,_,_,o,_,_,e,_⟩:=x;exact Heap.lt_size e
 |set S n=>obtain⟨o,_,_,_,e,_⟩:=x;exact Heap.lt_size e
 |ins C dx fs=>obtain⟨_,_,_,e,_⟩:=x;exact Heap.lt_size e
 |own y=>obtain⟨_,e⟩:=x;exact Heap.lt_size e
 |xd fs=>obtain⟨_,⟨_,_,_,e,_⟩,_⟩:=x;exact Heap.lt_size e
 |rj lo hi=>obtain⟨_,_,_,e⟩:=x;exact Heap.lt_size e
 |fS ob u=>obtain⟨e,_⟩:=x;exact Heap.lt_size e
 |rk ps|met f y=>exact Heap.lt_size (show h.get? a=some _ from x)
 |ext φ=>obtain⟨_,⟨_,e⟩,_⟩:=x;exact Heap.lt_size e
theorem Paired.CA{α β:Type}{F G:α->β->Prop}:∀{l₁:List α} {l₂:List β},Paired F l₁ l₂->(∀a b,F a b->G a b)->Paired G l₁ l₂
 |_,_, .nil,_=> .nil
 |_,_, .cons r t,f=> .cons (f _ _ r) (Paired.CA t f)
theorem dU.rm(x:dU P w H h a o)(k:∀b u,(b=a\/H b=some (.own a))->h.get? b=some u->h'.get? b=some u)
  (ho:∀b,H b=some (.own a)->H' b=some (.own a)) (ht:∀b xs,H b=some (.tup xs)->H' b=some (.tup xs)):dU P w H' h' a o:=by
 induction o with
 |lst xs=>obtain⟨z,ai,n,r,e⟩:=x;exact⟨z,ai,n,r,k _ _ (.inl U) e⟩
 |tup xs=>obtain⟨z,ai,r,ob,e,c⟩:=x;exact⟨z,ai,r,ob,k _ _ (.inl U) e,c⟩
 |dK ax=>obtain⟨z,y,vs,r,ob,es,ep,e,c⟩:=x;exact⟨z,y,vs,r,ob,es,ep,k _ _ (.inl U) e,c⟩
 |dT ax=>obtain⟨z,y,xs,r,ob,es,ep,e,c⟩:=x;exact⟨z,y,xs,Paired.CA r λp q z=>⟨z.1,ht _ _ z.2.1,z.2.2⟩,ob,es,ep,k _ _ (.inl U) e,c⟩
 |set S n=>obtain⟨ob,es,ep,t,e,c⟩:=x;exact⟨ob,es,ep,t,k _ _ (.inl U) e,c⟩
 |ins C dx fs=>obtain⟨d,z,ne,e,mA,⟨od,es,ep,e2,c⟩,r⟩:=x;exact⟨ho _ d,z,ne,k _ _ (.inl U) e,mA,⟨od,es,ep,k _ _ (.inr d) e2,c⟩,r⟩
 |own y=>obtain⟨ob,e⟩:=x;exact⟨ob,k _ _ (.inl U) e⟩
 |xd fs=>obtain⟨mA,⟨od,es,ep,e,c⟩,r⟩:=x;exact⟨mA,⟨od,es,ep,k _ _ (.inl U) e,c⟩,r⟩
 |rj lo hi=>obtain⟨t,u,v,e⟩:=x;exact⟨t,u,v,k _ _ (.inl U) e⟩
 |fS ob u ih=>obtain⟨e,q⟩:=x;exact⟨k _ _ (.inl U) e,ih q⟩
 |rk ps=>have e:h.get? a=some {cls:= .none,data:= .fields ps}:=x;show h'.get? a=some {cls:= .none,data:= .fields ps};exact k a _ (.inl U) e
 |met f y=>have e:h.get? a=some (PySem.W.methodObj (.ref f) (.ref y)):=x;show h'.get? a=some (PySem.W.methodObj (.ref f) (.ref y));exact k a _ (.inl U) e
 |ext φ=>obtain⟨p,⟨o,e⟩,st⟩:=x;exact⟨st _ _ p λo q=>k _ _ (.inl U) q,⟨o,k _ _ (.inl U) e⟩,st⟩
theorem du.lt(x:du P w H h)(e:H a=some o):a<h.objs.size:=(x a o e).lt
theorem du.fresh(x:du P w H h)(e:h.objs.size<=a):H a=none:=by
 cases q:H a with
 |none=>rfl
 |some u=>exact absurd (gT (x.lt q) e) (kJ _)
theorem du.kept(x:du P w H h)(k:∀b u,h.get? b=some u->h'.get? b=some u):du P w H h':=λa o e=>(x a o e).rm (λb u _ q=>k b u q) (λ_ q=>q) λ_ _ q=>q
theorem du.laid(x:du P w H h)(k:∀b u,h.get? b=some u->h'.get? b=some u)(hp:h.objs.size<=a)(new:dU P w (upd H a o) h' a o):du P w (upd H a o) h':=λb u e=>by
 have hn:=x.fresh hp;by_cases hb:b=a
 ·subst hb;rw[ae]at e;cases e;exact new
 ·rw[aD hb]at e
  exact(x b u e).rm (λc v _ q=>k c v q) (λc q=>by rw[aD (bS q hn)];exact q) λc xs q=>by rw[aD (bS q hn)];exact q
end
def Rd(H:Hp)(a:Addr)(u:HO):Prop:=H a=some u\/∃o,H a=some (.fS o u)
theorem Rd.ok{P:Program}{w:World}{H:Hp}{h:Heap}{a:Addr}{u:HO}(r:Rd H a u)(x:du P w H h):dU P w H h a u:=by
 rcases r with r|⟨o,r⟩
 ·exact x a u r
 ·obtain⟨_,q⟩:=x a _ r
  exact q
def vH:Option HO->Prop
 |some (.lst _)|some (.dK _)|some (.dT _)|some (.set _ _)|some (.ins _ _ _)|some (.ext _)=>True
 |_=>False
section
variable{P:Program}{w:World}{H:Hp}{h h':Heap}{x e:Addr}{o':HO}
theorem du.write(ok:du P w H h)(mu:vH (H x))(he:e=x\/H e=some (.own x))(k:∀b u,b≠e->h.get? b=some u->h'.get? b=some u)(tQ:∃u,h'.get? e=some u)
  (new:dU P w (upd H x o') h' x o'):du P w (upd H x o') h':=λb u q=>by
 have nown:∀c y,H c=some (.own y)->c≠x:=λc y r z=>by subst z;rw[r]at mu;exact mu
 have ntup:∀c xs,H c=some (.tup xs)->c≠x:=λc xs r z=>by subst z;rw[r]at mu;exact mu
 by_cases hb:b=x
 ·subst hb;rw[ae]at q;cases q;exact new
 ·rw[aD hb]at q
  by_cases rn:b=e
  ·have q':H b=some (.own x):=by
    rcases he with z|z
    ·exact absurd (rn.trans z) hb
    ·rw[rn];exact z
   rw[q]at q';cases q';obtain⟨v,hv⟩:=tQ;exact⟨v,by rw[rn];exact hv⟩
  ·refine(ok b u q).rm (λc v hc r=>k c v ?_ r) (λc r=>by rw[aD (nown c b r)];exact r) λc xs r=>by rw[aD (ntup c xs r)];exact r
   rcases hc with rfl|hc
   ·exact rn
   ·rintro rfl
    rcases he with z|z
    ·exact nown c b hc z
    ·rw[hc]at z;cases z;exact hb U
end
structure Un(fs ex:List Addr)(H H':Hp)(h h':Heap):Prop where
 keep:∀b o,h.get? b=some o->H b=none->b∉fs->b∉ex->h'.get? b=some o
 slot:∀b o,h.get? b=some o->H b=none->b∈fs->b∉ex->∃sl,h'.get? b=some {o with slots:=sl}
 free:∀b o,h.get? b=some o->H b=none->b∉ex->H' b=none
 there:∀b o,h.get? b=some o->b∉ex->∃o',h'.get? b=some o'
 kQ:∀b xs,H b=some (.tup xs)->H' b=some (.tup xs)
 jZ:∀b o u,H b=some (.fS o u)->H' b=some (.fS o u)
 kR:∀b ps,H b=some (.rk ps)->∃more,H' b=some (.rk (ps++more))
section
variable{fs lW ex JO:List Addr}{H H1 H2:Hp}{h h1 h2 h':Heap}{a x e:Addr}{o:HO}
theorem Un.any(u:Un fs ex H H1 h h1){b:Addr}{ob:Obj}(q:h.get? b=some ob)(n:H b=none)(hx:b∉ex):∃sl,h1.get? b=some {ob with slots:=sl}:=by
 by_cases hb:b∈fs
 ·exact u.slot b ob q n hb hx
 ·exact⟨ob.slots,u.keep b ob q n hb hx⟩
theorem Un.kept(k:∀b u,h.get? b=some u->h'.get? b=some u):Un fs ex H H h h':=⟨λb ob q _ _ _=>k b ob q,λb ob q _ _ _=>⟨ob.slots,k b ob q⟩,λ_ _ _ n _=>n,λb ob q _=>⟨ob,k b ob q⟩,λ_ _ q=>q,λ_ _ _ q=>q,λ_ ps q=>⟨#[],by rw[q];simp⟩⟩
theorem Un.refl:Un fs ex H H h h:=Un.kept λ_ _ q=>q
theorem Un.laid(k:∀b u,h.get? b=some u->h'.get? b=some u)(hp:h.objs.size<=a)(hn:H a=none):Un fs ex H (upd H a o) h h' where
 keep:=λb u q _ _ _=>k b u q
 slot:=λb u q _ _ _=>⟨u.slots,k b u q⟩
 free:=λb u q n _=>by rw[aD (f6 (gT (Heap.lt_size q) hp))];exact n
 there:=λb u q _=>⟨u,k b u q⟩
 kQ:=λb xs q=>by rw[aD (bS q hn)];exact q
 jZ:=λb u xs q=>by rw[aD (bS q hn)];exact q
 kR:=λb ps q=>⟨#[],by rw[aD (bS q hn),q];simp⟩
theorem Un.write(mu:vH (H x))(he:e=x\/H e=some (.own x))(k:∀b u,b≠e->h.get? b=some u->h'.get? b=some u)(tQ:∃u,h'.get? e=some u):Un fs ex H (upd H x o) h h':=by
 have hx:∀b,H b=none->b≠x:=λb n z=>by subst z;rw[n]at mu;exact mu
 have hb:∀b,H b=none->b≠e:=λb n z=>by
  subst z;rcases he with r|r
  ·exact hx b n r
  ·rw[n]at r;cases r
 have hm:∀b u,H b=some u->¬vH (some u)->b≠x:=λb u q nm z=>by subst z;rw[q]at mu;exact nm mu
 refine⟨λb u q n _ _=>k b u (hb b n) q,λb u q n _ _=>⟨u.slots,k b u (hb b n) q⟩,λb u q n _=>by rw[aD (hx b n)];exact n,λb u q _=>?_,
  λb xs q=>by rw[aD (hm b _ q λz=>z)];exact q,λb u xs q=>by rw[aD (hm b _ q λz=>z)];exact q,λb ps q=>⟨#[],by rw[aD (hm b _ q λz=>z),q];simp⟩⟩
 by_cases rn:b=e
 ·subst rn;exact tQ
 ·exact⟨u,k b u rn q⟩
end
def yZ(h:Heap)(H:Hp):List Addr:=(List.range h.objs.size).filter λa=>(H a).isSome
def oz(h:Heap)(H:Hp):Heap:=PySem.W.hideAll h (yZ h H)
theorem Se(h:Heap)(H:Hp):(oz h H).objs.size=h.objs.size:=PySem.W.hideAll_size _ _
theorem Sf{h:Heap}{H:Hp}{b:Addr}{o:Obj}(e:h.get? b=some o)(n:H b=none):(oz h H).get? b=some o:=
 PySem.W.hideAll_get _ e λhm=>by have q:(H b).isSome=true:=(sV.mp hm).2;rw[n]at q;simp at q
theorem Sg{h:Heap}{H:Hp}{b:Addr}{o:Obj}(e:(oz h H).get? b=some o):h.get? b=some o/\ H b=none:=by
 have e':h.get? b=some o:=PySem.W.of_hideAll (yZ h H) e;refine⟨e',?_⟩;cases q:H b with
 |none=>rfl
 |some x=>have hm:b∈yZ h H:=sV.mpr ⟨jq.mpr (Heap.lt_size e'),by simp[q]⟩;have z:(oz h H).get? b=none:=PySem.W.hideAll_none (yZ h H) hm;rw[z]at e;cases e
def Sh(g h:Heap)(L:Addr):List (Addr×Obj):=(List.range h.objs.size).filterMap λa=>if a=L\/(g.get? a).isSome=true then none else(h.get? a).map λo=>(a,o)
def rest(g h:Heap)(L d:Addr):List (Addr×Obj):=(Sh g h L).filter λp=>decide (p.1≠d)
end L2
namespace L2
open PySem PySem.Spec PyProof.Rows
structure Mod(K:PySem.W.Frag)(mg:Str->Option Value)(base:Heap):Prop where
 vI:K.In base
 glob:base.Ns mainGlobals mg
 blt:∃mb,base.Ns builtinsNs mb/\ ∀x:Str,x≠"__name__"->mb x=bootBuiltins x
 nolimit:base.NoLimit
structure Cx where
 prog:Program
 w:World
 K:PySem.W.Frag
 mg:Str->Option Value
 base:Heap
 A:Around
 N:List Str
 gd:Shared
 vJ:Hp
 env:Env
 outer:List Env
 stack:List Env
 ex:List Addr
 fn:Str->Bool
 calm:Bool
 pn:List (Addr×Obj)
 xe:Value->Shared->Prop
def lX(l:List Env):List Addr:=l.filterMap (·.frame)
abbrev Cx.fs(X:Cx):List Addr:=lX X.outer
def tR(sc:Scope)(x:Str):Prop:=sc.names.lookup x=some .local\/sc.names.lookup x=some .cell\/sc.names.lookup x=some .free
def Loc(sc:Scope)(x:Str):Prop:=sc.names.lookup x=some .local\/sc.names.lookup x=some .cell
def Look(env:Env)(h:Heap)(m:Str->Option Value)(x:Str)(u:Value):Prop:=(env.kindOf x=some .local/\ m x=some u)\/((env.kindOf x=some .cell\/env.kindOf x=some .free)/\ ∃c,env.cells.lookup x=some c/\ h.IsCell c (some u))
structure Cx.Ok(X:Cx):Prop where
 mod:Mod X.K X.mg X.base
 kind:X.env.scope.kind= .function
 glob:X.env.globals=mainGlobals
 blt:X.env.builtins=builtinsNs
 above:X.gd.heap.objs.size<=X.env.locals
 inj:∀x y c,X.env.cells.lookup x=some c->X.env.cells.lookup y=some c->x=y
 has:∀x,(X.env.kindOf x=some .cell\/X.env.kindOf x=some .free)->∃c,X.env.cells.lookup x=some c
 vK:∀x c,X.fn x=true->X.env.cells.lookup x=some c->X.gd.heap.objs.size<=c
 hd:X.calm=true->X.A.handled=none
 frames:X.A.frames=some X.stack
 y4:X.stack=X.outer\/(X.stack=X.env::X.outer/\ X.env.frame=some X.env.locals)
 y6:∀b∈X.ex,b≠X.env.locals/\ ∀x c,X.env.cells.lookup x=some c->c≠b
 bs:∀b o,X.base.get? b=some o->X.gd.heap.get? b=some o/\ X.vJ b=none
 lY:X.base.objs.size<=X.gd.heap.objs.size
 vL:∀b o,X.base.get? b=some o->b∉X.ex
 vM:∀b∈X.ex,b∉X.fs
 j0:X.gd.heap.FunFrames X.base X.outer
 pU:∀b∈X.fs,X.vJ b=none
structure Inv(X:Cx)(pins:List (Addr×Obj))(σ:List (Option V))(H:Hp)(s:Shared):Prop where
 ok:X.Ok
 os:s.os=X.gd.os
 bare:AllBare s.gens
 base:Un X.fs X.ex X.vJ H X.gd.heap s.heap
 loc:∃m,s.heap.Ns X.env.locals m/\ ∀(i:Nat) (x:Str) (v:V),X.N[i]? =some x->σ[i]? =some (some v)->tR X.env.scope x->∃u,RelV v u/\ Look X.env s.heap m x u
 cell:∀x c,X.env.cells.lookup x=some c->∃v,s.heap.IsCell c v
 free:H X.env.locals=none
 lZ:∀x c,X.env.cells.lookup x=some c->H c=none
 pin:∀p∈X.pn++pins,s.heap.get? p.1=some p.2/\ H p.1=none/\ p.1≠X.env.locals/\ p.1∉X.fs/\ ∀v,p.2.data≠ .cell v
 aK:du X.prog X.w H s.heap
 len:σ.length=X.N.length
section
variable{X:Cx}{pins:List (Addr×Obj)}{σ:List (Option V)}{H H':Hp}{s:Shared}{h':Heap}
theorem Cx.Ok.Si(ok:X.Ok){b:Addr}{o:Obj}(e:X.base.get? b=some o):b∉X.fs:=λhb=>by have:=(ok.j0.mem hb).1;rw[e]at this;cases this
theorem Inv.bs(I:Inv X pins σ H s):∀b o,X.base.get? b=some o->s.heap.get? b=some o/\ H b=none:=λb o e=>⟨I.base.keep b o (I.ok.bs b o e).1 (I.ok.bs b o e).2 (I.ok.Si e) (I.ok.vL b o e),I.base.free b o (I.ok.bs b o e).1 (I.ok.bs b o e).2 (I.ok.vL b o e)⟩
theorem Inv.bk(I:Inv X pins σ H s):∀b o,X.base.get? b=some o->s.heap.get? b=some o:=λb o e=>(I.bs b o e).1
theorem Inv.mod(I:Inv X pins σ H s):Mod X.K X.mg X.base:=I.ok.mod
theorem Inv.i8(I:Inv X pins σ H s):X.K.In s.heap:=I.ok.mod.vI.keeps I.bk
theorem Inv.fr(I:Inv X pins σ H s):∃m,Fr X.base X.env.locals s.heap m:=
 let⟨m,hn,_⟩:=I.loc
 ⟨m,hn,I.bk,cO I.ok.lY I.ok.above⟩
theorem Inv.lt(I:Inv X pins σ H s):X.env.locals<s.heap.objs.size:=let⟨_,hn,_⟩:=I.loc;hn.lt
theorem Inv.sz(I:Inv X pins σ H s):X.gd.heap.objs.size<=s.heap.objs.size:=cO I.ok.above (x9 I.lt)
theorem Inv.Sj(I:Inv X pins σ H s){a:Addr}(h:s.heap.objs.size<=a):a∉X.fs:=λhb=>by obtain⟨_,o,ho,_⟩:=I.ok.j0.mem hb;exact absurd (gT (Heap.lt_size ho) (cO I.sz h)) (kJ _)
theorem Inv.rp(I:Inv X pins σ H s):∀x c,X.env.cells.lookup x=some c->c≠X.env.locals:=λx c e z=>by obtain⟨v,o,ho,hd⟩:=I.cell x c e;obtain⟨m,⟨o',es,ep,jA,CC,_⟩,_⟩:=I.loc;rw[z,jA]at ho;cases ho;rw[CC]at hd;cases hd
theorem Inv.j0(I:Inv X pins σ H s):s.heap.FunFrames X.base X.outer:=by
 have all:∀(l:List Env),(∀b∈lX l,b∈X.fs)->X.gd.heap.FunFrames X.base l->s.heap.FunFrames X.base l:=by
  intro l;induction l with
  |nil=>intro _ _;trivial
  |cons env r ih=>intro hs hl;obtain⟨hk,⟨L,o,hf,hn,ho,hd⟩,hr⟩:=hl;have hL:L∈X.fs:=hs L (by unfold lX;rw[iF,hf];exact gC);obtain⟨sl,e⟩:=I.base.slot L o ho (I.ok.pU L hL) hL λz=>I.ok.vM L z hL;exact⟨hk,⟨L,_,hf,hn,e,hd⟩,ih (λb hb=>hs b (by unfold lX;rw[iF,hf];exact fe _ hb)) hr⟩
 exact all X.outer (λ_ hb=>hb) I.ok.j0
theorem Inv.stack(I:Inv X pins σ H s):s.heap.FunFrames X.base X.stack:=by
 rcases I.ok.y4 with e|⟨e,hf⟩
 ·rw[e];exact I.j0
 ·rw[e]
  obtain⟨m,hn,_⟩:=I.loc;refine .cons (by rw[I.ok.kind];decide) hf hn ?_ I.j0;exact Heap.get?_none_of_le (cO I.ok.lY I.ok.above)
theorem Inv.CD(I:Inv X pins σ H s):∀b∈lX X.stack,b∈X.env.locals::X.fs:=λb hb=>by
 rcases I.ok.y4 with e|⟨e,hf⟩
 ·rw[e]at hb;exact fe _ hb
 ·rw[e]at hb
  unfold lX at hb;rw[iF,hf]at hb;exact hb
theorem Inv.JP(I:Inv X pins σ H s):∀b∈lX X.stack,H b=none:=λb hb=>by
 rcases a_.mp (I.CD b hb)with e|hb
 ·rw[e];exact I.free
 ·obtain⟨_,o,ho,_⟩:=I.ok.j0.mem hb
  exact I.base.free b o ho (I.ok.pU b hb) λz=>I.ok.vM b z hb
theorem Inv.step{g':Array GenState}{t':Nat}{d':Drawn}{ch:List Addr}(I:Inv X pins σ H s)
  (nu:∀b∈ch,(b∈X.ex\/X.gd.heap.objs.size<=b)/\ b≠X.env.locals/\ (∀x c,X.env.cells.lookup x=some c->c≠b)/\ ∀p∈X.pn++pins,p.1≠b)
  (keep:∀b o,b≠X.env.locals->b∉X.fs->b∉ch->s.heap.get? b=some o->H b=none->h'.get? b=some o)
  (slot:∀b o,b≠X.env.locals->b∈X.fs->b∉ch->s.heap.get? b=some o->H b=none->∃sl,h'.get? b=some {o with slots:=sl}) (free:∀b o,b∉ch->s.heap.get? b=some o->H b=none->H' b=none)
  (there:∀b o,b∉ch->s.heap.get? b=some o->∃o',h'.get? b=some o')
  (kQ:∀b xs,H b=some (.tup xs)->H' b=some (.tup xs)) (jZ:∀b o u,H b=some (.fS o u)->H' b=some (.fS o u)) (kR:∀b ps,H b=some (.rk ps)->∃more,H' b=some (.rk (ps++more)))
  (ns:∀m,s.heap.Ns X.env.locals m->h'.Ns X.env.locals m) (aK:du X.prog X.w H' h') (hg:AllBare g'):
  Inv X pins σ H' {s with heap:=h',gens:=g',drawn:=d',toks:=t'}:=by
 have neL:∀b o,X.gd.heap.get? b=some o->b≠X.env.locals:=λb o e=>f6 (gT (Heap.lt_size e) I.ok.above);have neC:∀b o,X.gd.heap.get? b=some o->b∉X.ex->b∉ch:=λb o e hx hb=>by
  rcases(nu b hb).1 with z|z
  ·exact hx z
  ·exact absurd (gT (Heap.lt_size e) z) (kJ _)
 have cellK:∀x c,X.env.cells.lookup x=some c->∀v,s.heap.IsCell c v->h'.IsCell c v:=λx c e v ⟨o,ho,hd⟩=>by
  have nch:c∉ch:=λz=>(nu c z).2.2.1 x c e U;by_cases hc:c∈X.fs
  ·obtain⟨sl,q⟩:=slot c o (I.rp x c e) hc nch ho (I.lZ x c e)
   exact⟨_,q,hd⟩
  ·exact⟨o,keep c o (I.rp x c e) hc nch ho (I.lZ x c e),hd⟩
 refine⟨I.ok,I.os,hg,⟨λb o e n hb hx=>?_,λb o e n hb hx=>?_,λb o e n hx=>?_,λb o e hx=>?_,λb xs e=>kQ b xs (I.base.kQ b xs e),λb o xs e=>jZ b o xs (I.base.jZ b o xs e),λb ps e=>?_⟩,?_,λx c e=>?_,?_,λx c e=>?_,λp hp=>?_,aK,I.len⟩
 ·exact keep b o (neL b o e) hb (neC b o e hx) (I.base.keep b o e n hb hx) (I.base.free b o e n hx)
 ·obtain⟨sl,e1⟩:=I.base.slot b o e n hb hx
  obtain⟨CB,e2⟩:=slot b _ (neL b o e) hb (neC b o e hx) e1 (I.base.free b o e n hx);exact⟨CB,e2⟩
 ·obtain⟨o',e1⟩:=I.base.there b o e hx
  exact free b o' (neC b o e hx) e1 (I.base.free b o e n hx)
 ·obtain⟨o',e1⟩:=I.base.there b o e hx
  exact there b o' (neC b o e hx) e1
 ·obtain⟨m1,e1⟩:=I.base.kR b ps e
  obtain⟨m2,e2⟩:=kR b _ e1;exact⟨m1++m2,by rw[e2,Array.append_assoc]⟩
 ·obtain⟨m,hn,hl⟩:=I.loc
  refine⟨m,ns m hn,λi x v e1 e2 e3=>?_⟩;obtain⟨u,r,l⟩:=hl i x v e1 e2 e3;refine⟨u,r,?_⟩;rcases l with l|⟨k,c,e,z⟩
  ·exact .inl l
  ·exact .inr ⟨k,c,e,cellK x c e _ z⟩
 ·obtain⟨v,z⟩:=I.cell x c e
  exact⟨v,cellK x c e v z⟩
 ·obtain⟨m,⟨o,_,_,ho,_⟩,_⟩:=I.loc
  exact free _ o (λz=>(nu _ z).2.1 U) ho I.free
 ·obtain⟨v,o,ho,hd⟩:=I.cell x c e
  exact free c o (λz=>(nu c z).2.2.1 x c e U) ho (I.lZ x c e)
 ·obtain⟨e,n,ne,nf,d⟩:=I.pin p hp
  have nch:p.1∉ch:=λz=>(nu p.1 z).2.2.2 p hp U;exact⟨keep p.1 p.2 ne nf nch e n,free p.1 p.2 nch e n,ne,nf,d⟩
theorem Inv.un{t':Nat}(I:Inv X pins σ H s)(u:Un X.fs [] H H' s.heap h')(aK:du X.prog X.w H' h'):Inv X pins σ H' {s with heap:=h',toks:=t'}:=by
 obtain⟨m,⟨o,es,ep,ho,r⟩,_⟩:=id I.loc;obtain⟨sl,hL⟩:=u.any ho I.free (by simp);exact I.step (g':=s.gens) (d':=s.drawn) (ch:=[]) (λ_ z=>nomatch z) (λb o _ hb _ e n=>u.keep b o e n hb (by simp)) (λb o _ hb _ e n=>u.slot b o e n hb (by simp)) (λb o _ e n=>u.free b o e n (by simp)) (λb o _ e=>u.there b o e (by simp)) u.kQ u.jZ u.kR (λm' hm=>by obtain⟨o',CF,CG,jA,r'⟩:=hm;rw[ho]at jA;cases jA;exact⟨_,CF,CG,hL,r'⟩) aK I.bare
theorem Inv.call{g':Array GenState}{t':Nat}{d':Drawn}{ch:List Addr}(I:Inv X pins σ H s)(u:Un (lX X.stack) ch H H' s.heap h')(aK:du X.prog X.w H' h')(hg:AllBare g')
  (nu:∀b∈ch,(b∈X.ex\/X.gd.heap.objs.size<=b)/\ b≠X.env.locals/\ (∀x c,X.env.cells.lookup x=some c->c≠b)/\ ∀p∈X.pn++pins,p.1≠b):
  Inv X pins σ H' {s with heap:=h',gens:=g',drawn:=d',toks:=t'}:=by
 obtain⟨m,⟨o,es,ep,ho,r⟩,_⟩:=id I.loc;obtain⟨sl,hL⟩:=u.any ho I.free λz=>(nu _ z).2.1 U;exact I.step (ch:=ch) nu (λb o hL hb hc e n=>u.keep b o e n (λz=>(a_.mp (I.CD b z)).elim hL hb) hc) (λb o _ _ hc e n=>u.any e n hc) (λb o hc e n=>u.free b o e n hc) (λb o hc e=>u.there b o e hc) u.kQ u.jZ u.kR (λm' hm=>by obtain⟨o',CF,CG,jA,r'⟩:=hm;rw[ho]at jA;cases jA;exact⟨_,CF,CG,hL,r'⟩) aK hg
theorem Inv.turned{t':Nat}{it:Addr}(I:Inv X pins σ H s)(k:∀b o,b≠it->s.heap.get? b=some o->h'.get? b=some o)(hn:H it=none)(hL:it≠X.env.locals)
  (h1:it∈X.ex\/X.gd.heap.objs.size<=it) (h2:∀x c,X.env.cells.lookup x=some c->c≠it) (h3:∀p∈X.pn++pins,p.1≠it):Inv X pins σ H {s with heap:=h',toks:=t'}:=by
 have nit:∀b u,H b=some u->b≠it:=λb u e z=>by rw[z,hn]at e;cases e
 refine I.step (g':=s.gens) (d':=s.drawn) (ch:=[it]) (λb hb=>?_) (λb o _ _ hc e _=>k b o (λz=>hc (by simp[z])) e) (λb o _ _ hc e _=>⟨o.slots,k b o (λz=>hc (by simp[z])) e⟩) (λ_ _ _ _ n=>n)
  (λb o hc e=>⟨o,k b o (λz=>hc (by simp[z])) e⟩) (λ_ _ e=>e) (λ_ _ _ e=>e) (λb ps e=>⟨#[],by rw[e];simp⟩) (λm hm=>?_) (λb u e=>?_) I.bare
 ·have e:b=it:=by simpa using hb
  subst e;exact⟨h1,hL,h2,h3⟩
 ·obtain⟨o,es,ep,ho,r⟩:=hm
  exact⟨o,es,ep,k _ o (Ne.symm hL) ho,r⟩
 ·refine(I.aK b u e).rm (λc v hc q=>k c v ?_ q) (λ_ q=>q) λ_ _ q=>q
  rcases hc with z|z
  ·rw[z];exact nit b u e
  ·exact nit c _ z
theorem Inv.tok(I:Inv X pins σ H s)(t:Nat):Inv X pins σ H {s with toks:=t}:=I.un (h':=s.heap) (t':=t) Un.refl I.aK
theorem Inv.kept{t':Nat}(I:Inv X pins σ H s)(k:∀b u,s.heap.get? b=some u->h'.get? b=some u):Inv X pins σ H {s with heap:=h',toks:=t'}:=I.un (Un.kept k) (I.aK.kept k)
theorem Inv.laid{a:Addr}{o:HO}{t':Nat}(I:Inv X pins σ H s)(k:∀b u,s.heap.get? b=some u->h'.get? b=some u)(hp:s.heap.objs.size<=a)(new:dU X.prog X.w (upd H a o) h' a o):
  Inv X pins σ (upd H a o) {s with heap:=h',toks:=t'}:=I.un (Un.laid k hp (I.aK.fresh hp)) (I.aK.laid k hp new)
theorem Inv.write{x e:Addr}{o:HO}{t':Nat}(I:Inv X pins σ H s)(mu:vH (H x))(he:e=x\/H e=some (.own x))(k:∀b u,b≠e->s.heap.get? b=some u->h'.get? b=some u)(tQ:∃u,h'.get? e=some u)
  (new:dU X.prog X.w (upd H x o) h' x o):Inv X pins σ (upd H x o) {s with heap:=h',toks:=t'}:=I.un (Un.write mu he k tQ) (I.aK.write mu he k tQ new)
theorem Inv.weak{σ':List (Option V)}(I:Inv X pins σ H s)(hl:σ'.length=σ.length)(w:∀(i:Nat) v,σ'[i]? =some (some v)->σ[i]? =some (some v)):Inv X pins σ' H s:=⟨I.ok,I.os,I.bare,I.base,let⟨m,hn,dH⟩:=I.loc;⟨m,hn,λi x v e1 e2 e3=>dH i x v e1 (w i v e2) e3⟩,I.cell,I.free,I.lZ,I.pin,I.aK,hl.trans I.len⟩
theorem Inv.JQ{pins':List (Addr×Obj)}(I:Inv X pins σ H s)(h:∀p∈pins',s.heap.get? p.1=some p.2/\ H p.1=none/\ p.1≠X.env.locals/\ p.1∉X.fs/\ ∀v,p.2.data≠ .cell v):Inv X pins' σ H s:=⟨I.ok,I.os,I.bare,I.base,I.loc,I.cell,I.free,I.lZ,λp hp=>(cN.mp hp).elim (λz=>I.pin p (mT _ z)) (h p),I.aK,I.len⟩
theorem CH{N:List Str}(hN:N.Nodup){i j:Nat}{x:Str}(a:N[i]? =some x)(b:N[j]? =some x):i=j:=by obtain⟨h1,e1⟩:=cP.mp a;obtain⟨h2,e2⟩:=cP.mp b;exact(xW hN).mp (e1.trans e2.symm)
theorem JR{M:Model}{A:Around}{E:Value->Shared->Prop}{i:Nat}{x:Str}{v:V}{u:Value}{Q:Unit->Shared->Prop}(I:Inv X pins σ H s)(hN:X.N.Nodup)(hi:X.N[i]? =some x)(hx:Loc X.env.scope x)(r:RelV v u)
  (h:∀s',Inv X pins (σ.set i (some v)) H s'->(∃a,Heap.SameBut a s.heap s'.heap/\ (a=X.env.locals\/X.env.cells.lookup x=some a))->Q () s') (hf:X.fn x=true\/X.env.scope.names.lookup x=some .local:=by first|exact .inl U|exact .inr U|assumption):wpAny M A (storeName X.env x u) Q E s:=by
 obtain⟨m,hn,hl⟩:=id I.loc;have Sk:(X.env.scope.kind== .class||(X.env.scope.kind== .module&&X.env.locals !=X.env.globals))=false:=by rw[I.ok.kind];rfl
 have hiσ:i<σ.length:=by rw[I.len];exact(cP.mp hi).1
 have rp:=I.rp;have tracked:∀{a:Addr} {h':Heap},(∃o,s.heap.get? a=some o/\ H a=none)->Heap.SameBut a s.heap h'->du X.prog X.w H h':=λ{a h'} ha hs b ob e=>by
  obtain⟨_,_,hfree⟩:=ha;refine(I.aK b ob e).rm (λc w' hc q=>(hs.2 c ?_).trans q) (λ_ q=>q) λ_ _ q=>q;rintro rfl;rcases hc with rfl|hc
  ·rw[hfree]at e;cases e
  ·rw[hfree]at hc;cases hc
 rcases hx with hk|hk
 ·refine wpAny_storeName_local hk hn (λh' rq hs=>?_) Sk
  obtain⟨oL,_,_,hoL,_⟩:=id hn;refine h _ ⟨I.ok,I.os,I.bare,⟨λb o e n hb hx=>?_,λb o e n hb hx=>?_,I.base.free,λb o e hx=>?_,I.base.kQ,I.base.jZ,I.base.kR⟩,⟨_,rq,λj y v' e1 e2 e3=>?_⟩,λy c e=>?_,I.free,I.lZ,λp hp=>?_,tracked ⟨oL,hoL,I.free⟩ hs,by simpa using I.len⟩ ⟨_,hs, .inl U⟩
  ·exact(hs.2 b (f6 (gT (Heap.lt_size e) I.ok.above))).trans (I.base.keep b o e n hb hx)
  ·obtain⟨sl,e1⟩:=I.base.slot b o e n hb hx
   exact⟨sl,(hs.2 b (f6 (gT (Heap.lt_size e) I.ok.above))).trans e1⟩
  ·obtain⟨o',e1⟩:=I.base.there b o e hx
   exact⟨o',(hs.2 b (f6 (gT (Heap.lt_size e) I.ok.above))).trans e1⟩
  ·by_cases hj:j=i
   ·subst hj
    rw[hi]at e1;cases e1;rw[n0 hiσ]at e2;cases e2;exact⟨u,r, .inl ⟨hk,by simp⟩⟩
   ·rw[mU (Ne.symm hj)]at e2
    obtain⟨u',r',q⟩:=hl j y v' e1 e2 e3;refine⟨u',r',?_⟩;rcases q with⟨k,e⟩|⟨k,c,e,z⟩
    ·refine .inl ⟨k,?_⟩
     have:y≠x:=λe=>hj (CH hN e1 (e▸hi));simp[this,e]
    ·exact .inr ⟨k,c,e,z.sameBut hs (rp y c e)⟩
  ·obtain⟨w',z⟩:=I.cell y c e
   exact⟨w',z.sameBut hs (rp y c e)⟩
  ·obtain⟨e,n,ne,nf,d⟩:=I.pin p hp
   exact⟨(hs.2 p.1 ne).trans e,n,ne,nf,d⟩
 ·have CI:X.fn x=true:=by
   rcases hf with z|z
   ·exact z
   ·rw[z]at hk;cases hk
  obtain⟨c,hc⟩:=I.ok.has x (.inl hk);obtain⟨w',z⟩:=I.cell x c hc;refine wpAny_storeName_cell I.ok.kind hk hc z (λh' i9 hs=>?_);obtain⟨oc,JS,Sl⟩:=id z;refine h {s with heap:=h'} ⟨I.ok,I.os,I.bare,⟨λb o e n hb hx=>?_,λb o e n hb hx=>?_,I.base.free,λb o e hx=>?_,I.base.kQ,I.base.jZ,I.base.kR⟩,⟨m,hn.sameBut hs (Ne.symm (rp x c hc)),λj y v' e1 e2 e3=>?_⟩,λy c' e=>?_,I.free,I.lZ,λp hp=>?_,tracked ⟨oc,JS,I.lZ x c hc⟩ hs,by simpa using I.len⟩ ⟨c,hs, .inr hc⟩
  ·exact(hs.2 b (f6 (gT (Heap.lt_size e) (I.ok.vK x c CI hc)))).trans (I.base.keep b o e n hb hx)
  ·obtain⟨sl,e1⟩:=I.base.slot b o e n hb hx
   exact⟨sl,(hs.2 b (f6 (gT (Heap.lt_size e) (I.ok.vK x c CI hc)))).trans e1⟩
  ·obtain⟨o',e1⟩:=I.base.there b o e hx
   exact⟨o',(hs.2 b (f6 (gT (Heap.lt_size e) (I.ok.vK x c CI hc)))).trans e1⟩
  ·by_cases hj:j=i
   ·subst hj
    rw[hi]at e1;cases e1;rw[n0 hiσ]at e2;cases e2;exact⟨u,r, .inr ⟨.inl hk,c,hc,i9⟩⟩
   ·rw[mU (Ne.symm hj)]at e2
    obtain⟨u',r',q⟩:=hl j y v' e1 e2 e3;refine⟨u',r',?_⟩;rcases q with q|⟨k,c',e,z'⟩
    ·exact .inl q
    ·refine .inr ⟨k,c',e,z'.sameBut hs ?_⟩
     rintro rfl;exact hj (CH hN e1 (I.ok.inj _ _ _ e hc▸hi))
  ·by_cases tS:c'=c
   ·subst tS;exact⟨_,i9⟩
   ·obtain⟨w2,z2⟩:=I.cell y c' e
    exact⟨w2,z2.sameBut hs tS⟩
  ·obtain⟨e,n,ne,nf,d⟩:=I.pin p hp
   refine⟨(hs.2 p.1 ?_).trans e,n,ne,nf,d⟩;intro q;rw[q,JS]at e;have q':oc=p.2:=ay e;exact d w' (by rw[<-q'];exact Sl)
theorem CJ{M:Model}{A:Around}{E:Value->Shared->Prop}{i:Nat}{x:Str}{v:V}{u:Value}{Q:Unit->Shared->Prop}(I:Inv X pins σ H s)(hN:X.N.Nodup)(hi:X.N[i]? =some x)(hx:Loc X.env.scope x)(r:RelV v u)
  (h:∀s',Inv X pins (σ.set i (some v)) H s'->Q () s') (hf:X.fn x=true\/X.env.scope.names.lookup x=some .local:=by first|exact .inl U|exact .inr U|assumption):wpAny M A (storeName X.env x u) Q E s:=
 JR I hN hi hx r (λs' I' _=>h s' I') hf
theorem Inv.Sm{s':Shared}{ch:List Addr}(I:Inv X pins σ H s)(ho:s'.os=s.os)(u:Un (lX X.stack) ch H H' s.heap s'.heap)(aK:du X.prog X.w H' s'.heap)(hg:AllBare s'.gens)
  (nu:∀b∈ch,(b∈X.ex\/X.gd.heap.objs.size<=b)/\ b≠X.env.locals/\ (∀x c,X.env.cells.lookup x=some c->c≠b)/\ ∀p∈X.pn++pins,p.1≠b):Inv X pins σ H' s':=by
 obtain⟨h',g',d',t',o'⟩:=s';have e:o'=s.os:=ho;subst e;exact I.call (g':=g') (t':=t') (d':=d') u aK hg nu
end
abbrev XK:=Value->Option Addr->Hp->Prop
abbrev St:=List (Option V)
abbrev VK:=V->Hp->Prop
abbrev TE:=St->Hp->VK->Prop
abbrev TT:=St->Hp->(Bool->Hp->Prop)->Prop
abbrev TA:=St->Hp->(List V->Hp->Prop)->Prop
structure Ends where
 nx:St->Hp->Prop
 rt:VK
 bk:St->Hp->Prop:=λ_ _=>False
 ct:St->Hp->Prop:=λ_ _=>False
abbrev TS:=Ends->St->Hp->Prop
def EP(X:Cx)(pins:List (Addr×Obj))(σ:St)(Q:VK)(u:Value)(s':Shared):Prop:=∃v H',Inv X pins σ H' s'/\ RelV v u/\ Q v H'
def TP(X:Cx)(pins:List (Addr×Obj))(σ:St)(Q:Bool->Hp->Prop)(b:Bool)(s':Shared):Prop:=∃H',Inv X pins σ H' s'/\ Q b H'
def AP(X:Cx)(pins:List (Addr×Obj))(σ:St)(Q:List V->Hp->Prop)(us:List Value)(s':Shared):Prop:=∃vs H',Inv X pins σ H' s'/\ Vals vs us/\ Q vs H'
def SP(X:Cx)(pins:List (Addr×Obj))(D:Ends)(f:Flow)(s':Shared):Prop:=
 match f with
 | .next=>∃σ' H',Inv X pins σ' H' s'/\ D.nx σ' H'
 | .brk=>∃σ' H',Inv X pins σ' H' s'/\ D.bk σ' H'
 | .cont=>∃σ' H',Inv X pins σ' H' s'/\ D.ct σ' H'
 | .ret u=>∃v σ' H',Inv X pins σ' H' s'/\ RelV v u/\ D.rt v H'
def PE(X:Cx)(e:Expr)(t:TE):Prop:=∀(pins:List (Addr×Obj)) (s:Shared) (σ:St) (H:Hp) (Q:VK),Inv X pins σ H s->t σ H Q->wpAny (model X.prog X.w) X.A (eval e X.env) (EP X pins σ Q) X.xe s
def PT(X:Cx)(e:Expr)(t:TT):Prop:=∀(pins:List (Addr×Obj)) (s:Shared) (σ:St) (H:Hp) (Q:Bool->Hp->Prop),Inv X pins σ H s->t σ H Q->wpAny (model X.prog X.w) X.A (isTrue e X.env (eval e X.env)) (TP X pins σ Q) X.xe s
def PW(X:Cx)(e:Expr)(t:TT):Prop:=∀(whole:Sem Value) (pins:List (Addr×Obj)) (s:Shared) (σ:St) (H:Hp) (Q:Bool->Hp->Prop),Inv X pins σ H s->t σ H Q->wpAny (model X.prog X.w) X.A (isTrue e X.env whole) (TP X pins σ Q) X.xe s
theorem PW.pt{X:Cx}{e:Expr}{t:TT}(h:PW X e t):PT X e t:=h _
def PA(X:Cx)(es:List Expr)(t:TA):Prop:=∀(pos:Pos) (pins:List (Addr×Obj)) (s:Shared) (σ:St) (H:Hp) (Q:List V->Hp->Prop),Inv X pins σ H s->t σ H Q->wpAny (model X.prog X.w) X.A (spliced (backTo pos (starEach es X.env))) (AP X pins σ Q) X.xe s
def PS(X:Cx)(st:Stmt)(t:TS):Prop:=∀(pins:List (Addr×Obj)) (s:Shared) (σ:St) (H:Hp) (D:Ends),Inv X pins σ H s->t D σ H->wpAny (model X.prog X.w) X.A (exec st X.env) (SP X pins D) X.xe s
def jB(X:Cx)(st:List Stmt)(t:TS):Prop:=∀(pins:List (Addr×Obj)) (s:Shared) (σ:St) (H:Hp) (D:Ends),Inv X pins σ H s->t D σ H->wpAny (model X.prog X.w) X.A (execs st X.env) (SP X pins D) X.xe s
theorem aV{α:Type}{t:Sem α}{Q Q':α->Shared->Prop}{M:Model}{A:Around}{E:Value->Shared->Prop}{s:Shared}(h:wpAny M A t Q E s)(hQ:∀a s,Q a s->Q' a s):wpAny M A t Q' E s:=wpAny_mono h hQ λ_ _ x=>x
end L2
namespace L2
open PySem PySem.Spec PyProof.Rows
section
variable{X:Cx}
def aZ(i:Nat):TE:=λσ H Q=>∃v,σ[i]? =some (some v)/\ Q v H
def tC(v:V):TE:=λ_ H Q=>Q v H
theorem Sn{i:Nat}{x:Str}{pos:Pos}(hN:X.N[i]? =some x)(hv:tR X.env.scope x)(hd:(x==("__debug__":Str))=false:=by decide)(kT:(x==("__classdict__":Str))=false:=by decide):PE X (.Name x pos) (aZ i):=by
 intro pins s σ H Q I h;obtain⟨v,e,h⟩:=h;obtain⟨m,hn,hl⟩:=I.loc;obtain⟨u,r,l⟩:=hl i x v hN e hv;have fin:EP X pins σ Q u s:=⟨v,H,I,r,h⟩
 rcases l with⟨hk,hm⟩|⟨hk,c,hc,hcell⟩
 ·exact wpAny_Name (wpAny_loadName_local I.ok.kind hk hn hm fin) hd
 ·rcases hk with hk|hk
  ·exact wpAny_Name (wpAny_loadName_cell I.ok.kind hk hc hcell fin) hd
  ·exact wpAny_Name (wpAny_loadName_free I.ok.kind hk hc hcell fin kT) hd
theorem ak{i j pos}:PE X (.Constant (.int i) j pos) (tC (.int i)):=λ_ _ _ H _ I h=>wpAny_Constant_int ⟨.int i,H,I.tok _,⟨_,U⟩,h⟩
theorem iP{b j pos}:PE X (.Constant (.bool b) j pos) (tC (.bl b)):=λ_ _ _ H _ I h=>Constant_bool ⟨.bl b,H,I,U,h⟩
theorem i_{j pos}:PE X (.Constant .none j pos) (tC .aO):=λ_ _ _ H _ I h=>Constant_none ⟨.aO,H,I,U,h⟩
theorem JT{x j pos}:PE X (.Constant (.str x) j pos) (tC (.str x)):=λ_ _ _ H _ I h=>Calls.Constant_str ⟨.str x,H,I.tok _,⟨_,U⟩,h⟩
def Gl(X:Cx)(x:Str):Prop:=X.env.kindOf x=some .globalImplicit
theorem y8{E:Value->Shared->Prop}{pins:List (Addr×Obj)}{s:Shared}{σ:St}{H:Hp}{x:Str}{u:Value}{pos:Pos}{Q:Value->Shared->Prop}(I:Inv X pins σ H s)(hg:Gl X x)(hm:X.mg x=some u)(h:Q u s)
  (hd:(x==("__debug__":Str))=false:=by decide):wpAny (model X.prog X.w) X.A (eval (.Name x pos) X.env) Q E s:=
 Calls.Name_function_global I.ok.kind hg (Calls.loadGlobal_global (by rw[I.ok.glob];exact I.mod.glob.keeps I.bk) hm h) hd
theorem oA{E:Value->Shared->Prop}{pins:List (Addr×Obj)}{s:Shared}{σ:St}{H:Hp}{x:Str}{u:Value}{pos:Pos}{Q:Value->Shared->Prop}(I:Inv X pins σ H s)(hg:Gl X x)(hm:X.mg x=none)(hv:bootBuiltins x=some u)(h:Q u s)
  (hn:x≠"__name__":=by decide) (hd:(x==("__debug__":Str))=false:=by decide):wpAny (model X.prog X.w) X.A (eval (.Name x pos) X.env) Q E s:=by
 obtain⟨mb,h1,h2⟩:=I.mod.blt;exact Calls.Name_function_global I.ok.kind hg (Calls.loadGlobal_builtin (by rw[I.ok.glob];exact I.mod.glob.keeps I.bk) hm (by rw[I.ok.blt];exact h1.keeps I.bk) ((h2 x hn).trans hv) h) hd
theorem CK{x:Str}{v:V}{u:Value}{pos:Pos}(hg:Gl X x)(hm:X.mg x=some u)(r:RelV v u)(hd:(x==("__debug__":Str))=false:=by decide):PE X (.Name x pos) (tC v):=λ_ _ _ H _ I h=>y8 I hg hm ⟨v,H,I,r,h⟩ hd
variable{a b:Expr}{ta tb:TE}{pos:Pos}
def PC(X:Cx)(op:CmpOp)(a b:Expr)(t:TE):Prop:=
 ∀(pins:List (Addr×Obj)) (s:Shared) (σ:St) (H:Hp) (Q:VK),Inv X pins σ H s->t σ H Q->
  wpAny (model X.prog X.w) X.A (eval a X.env) (λv s₁=>wpAny (model X.prog X.w) X.A (eval b X.env) (λu s₂=>wpAny (model X.prog X.w) X.A (compareOp op v u) (EP X pins σ Q) X.xe s₂) X.xe s₁) X.xe s
theorem So(b:Expr){op:CmpOp}(h:op≠ .In)(h2:op≠ .NotIn):behindInMarks op b=false:=by
 have e1:(op==CmpOp.In)=false:=by cases op<;>first|rfl|exact absurd U h
 have e2:(op==CmpOp.NotIn)=false:=by cases op<;>first|rfl|exact absurd U h2
 cases b<;>simp[behindInMarks,e1,e2]
def tB(t:TE):TT:=λσ H Q=>t σ H λx H1=>∃c,x= .bl c/\ Q c H1
theorem JU{op:CmpOp}{t:TE}(h:PC X op a b t)(h1:behindInMarks op b=false:=by first|exact So _ (by decide) (by decide)|rfl):PT X (.Compare a [op] [b] pos) (tB t):=by intro pins s σ H Q I hw;refine wpAny_isTrue_Compare1 (aV (h pins s σ H _ I hw) λv s1 h1=>aV h1 λu s2 h2=>aV h2 λc s3 ⟨x,H1,I1,r1,q1⟩=>?_) h1;obtain⟨d,rfl,q⟩:=q1;cases r1;exact wpAny_truthy_bool ⟨H1,I1,q⟩
theorem dC{e:Expr}{t:TE}(h:PE X e t)(he:∀whole,isTrue e X.env whole=(do let v<-whole;standAt e.pos;holding [v] (truthy v)):=by intro _;rfl):PT X e (tB t):=by intro pins s σ H Q I hw;refine isTrue_plain (aV (h pins s σ H _ I hw) λv s1 ⟨x,H1,I1,r1,q1⟩=>?_) (he _);obtain⟨d,rfl,q⟩:=q1;cases r1;exact wpAny_truthy_bool ⟨H1,I1,q⟩
variable{tA y9:TT}{rest:List Expr}
def JV(t u:TT):TT:=λσ H Q=>t σ H λc H1=>if c=true then u σ H1 Q else Q false H1
def Sq(t u:TT):TT:=λσ H Q=>t σ H λc H1=>if c=true then Q true H1 else u σ H1 Q
def JW(t:TT):TT:=λσ H Q=>t σ H λc H1=>Q (!c) H1
theorem tT(ha:PT X a tA):PW X (.BoolOp .And [a] pos) tA:=by
 intro wh pins s σ H Q I h;refine isTrue_and (aV (ha pins s σ H Q I h) λc s1 e=>?_);cases c with
 |true=>exact isTrue_and_nil e
 |false=>exact e
theorem oB(ha:PT X a tA):PW X (.BoolOp .Or [a] pos) tA:=by
 intro wh pins s σ H Q I h;refine isTrue_or (aV (ha pins s σ H Q I h) λc s1 e=>?_);cases c with
 |false=>exact isTrue_or_nil e
 |true=>exact e
theorem tU(ha:PT X a tA)(hb:PW X (.BoolOp .And (b::rest) pos) y9):PW X (.BoolOp .And (a::b::rest) pos) (JV tA y9):=by
 intro wh pins s σ H Q I h;refine isTrue_and (aV (ha pins s σ H _ I h) λc s1 ⟨H1,I1,q1⟩=>?_);cases c with
 |true=>exact hb wh pins s1 σ H1 Q I1 q1
 |false=>exact⟨H1,I1,q1⟩
theorem kU(ha:PT X a tA)(hb:PW X (.BoolOp .Or (b::rest) pos) y9):PW X (.BoolOp .Or (a::b::rest) pos) (Sq tA y9):=by
 intro wh pins s σ H Q I h;refine isTrue_or (aV (ha pins s σ H _ I h) λc s1 ⟨H1,I1,q1⟩=>?_);cases c with
 |true=>exact⟨H1,I1,q1⟩
 |false=>exact hb wh pins s1 σ H1 Q I1 q1
theorem ij(ha:PT X a tA):PT X (.UnaryOp .Not a pos) (JW tA):=by intro pins s σ H Q I h;exact isTrue_not (ha pins s σ H (λc H1=>Q (!c) H1) I h)
def Sr(ta tb:TE):TE:=λσ H Q=>ta σ H λx H1=>∃c,x= .bl c/\ if c=true then tb σ H1 Q else Q (.bl false) H1
def Ss(ta tb:TE):TE:=λσ H Q=>ta σ H λx H1=>∃c,x= .bl c/\ if c=true then Q (.bl true) H1 else tb σ H1 Q
theorem rA{op}{t:TE}(h:PE X a t):PE X (.BoolOp op [a] pos) t:=λpins s σ H Q I hw=>BoolOp_one (h pins s σ H Q I hw)
theorem vN(ha:PE X a ta)(hb:PE X (.BoolOp .And (b::rest) pos) tb):PE X (.BoolOp .And (a::b::rest) pos) (Sr ta tb):=by
 intro pins s σ H Q I h;refine BoolOp_and (aV (ha pins s σ H _ I h) λv s1 ⟨x,H1,I1,r1,q1⟩=>?_);obtain⟨c,rfl,q1⟩:=q1;cases r1;refine wpAny_truthy_bool ?_;cases c with
 |true=>exact hb pins s1 σ H1 Q I1 q1
 |false=>exact⟨.bl false,H1,I1,U,q1⟩
theorem JX(ha:PE X a ta)(hb:PE X (.BoolOp .Or (b::rest) pos) tb):PE X (.BoolOp .Or (a::b::rest) pos) (Ss ta tb):=by
 intro pins s σ H Q I h;refine BoolOp_or (aV (ha pins s σ H _ I h) λv s1 ⟨x,H1,I1,r1,q1⟩=>?_);obtain⟨c,rfl,q1⟩:=q1;cases r1;refine wpAny_truthy_bool ?_;cases c with
 |false=>exact hb pins s1 σ H1 Q I1 q1
 |true=>exact⟨.bl true,H1,I1,U,q1⟩
def rB(t:TT)(ta tb:TE):TE:=λσ H Q=>t σ H λc H1=>if c=true then ta σ H1 Q else tb σ H1 Q
theorem kW{c:Expr}(hc:PT X c tA)(ha:PE X a ta)(hb:PE X b tb):PE X (.IfExp c a b pos) (rB tA ta tb):=by
 intro pins s σ H Q I h;refine wpAny_IfExp (aV (hc pins s σ H _ I h) λd s1 ⟨H1,I1,q1⟩=>?_);cases d with
 |true=>exact ha pins s1 σ H1 Q I1 q1
 |false=>exact hb pins s1 σ H1 Q I1 q1
end
end L2
namespace L2
open PySem PySem.Spec PyProof.Rows
def ab(K:PySem.W.Frag)(H:Hp)(a:Addr)(xs:List V):Prop:=
 Rd H a (.lst xs)\/
  ∃(o:Obj) (ai:Array Value) (n:Nat),K.lookup a=some o/\ o.cls= .type "list"/\ o.dict=none/\ o.data= .seq ai n/\ ai.size<=sizeLine/\ Vals xs ai.toList
def bz(K:PySem.W.Frag)(H:Hp)(a:Addr)(xs:List V):Prop:=
 Rd H a (.tup xs)\/
  ∃(o:Obj) (ai:Array Value) (n:Nat),K.lookup a=some o/\ o.cls= .type "tuple"/\ o.data= .seq ai n/\ ai.size<=sizeLine/\ Vals xs ai.toList
def Su:Value->Option V
 | .none=>some .aO
 | .bool b=>some (.bl b)
 | .int i _=>some (.int i)
 | .str x _=>some (.str x)
 | .bytes b _=>some (.iN b)
 | .float b _=>some (.flt b)
 | .ref a=>some (.ref a)
 | .type n=>some (.ty n)
 |_=>none
theorem RelV.abs{x:V}{u:Value}(r:RelV x u):Su u=some x:=by
 cases x with
 |aO|bl _=>cases r;rfl
 |int _|str _|iN _|flt _=>obtain⟨t,rfl⟩:=r;rfl
 |ref _|ty _=>cases r;rfl
theorem RelV.inj{x y:V}{u:Value}(r:RelV x u)(q:RelV y u):x=y:=ay (r.abs.symm.trans q.abs)
theorem Vals.inj:∀{xs ys:List V} {us:List Value},Vals xs us->Vals ys us->xs=ys
 |_,_,_, .nil, .nil=>rfl
 |_,_,_, .cons r t, .cons r' t'=>by rw[r.inj r',Vals.inj t t']
section
variable{X:Cx}{pins:List (Addr×Obj)}{σ:St}{H:Hp}{s:Shared}{a:Addr}{xs ys:List V}
theorem ab.of{K:PySem.W.Frag}(h:H a=some (.lst xs)):ab K H a xs:= .inl (.inl h)
theorem bz.of{K:PySem.W.Frag}(h:H a=some (.tup xs)):bz K H a xs:= .inl (.inl h)
theorem Inv.list(I:Inv X pins σ H s)(h:ab X.K H a xs):∃ai:List Value,Vals xs ai/\ PlainL s.heap a ai.toArray/\ xs.length<=sizeLine:=by
 rcases h with h|⟨o,ai,n,hk,hc,hd,hs,hz,r⟩
 ·obtain⟨z,ai,n,r,e⟩:=h.ok I.aK
  exact⟨ai,r,⟨_,n,e,U,U,U⟩,z⟩
 ·refine⟨ai.toList,r,⟨o,n,I.i8 a o hk,hc,hd,by simpa using hs⟩,?_⟩
  have e:=r.length;simp only[Array.length_toList]at e;omega
theorem Inv.tuple(I:Inv X pins σ H s)(h:bz X.K H a xs):∃ai:List Value,Vals xs ai/\ IsTup s.heap a ai.toArray/\ xs.length<=sizeLine:=by
 rcases h with h|⟨o,ai,n,hk,hc,hs,hz,r⟩
 ·obtain⟨z,ai,r,p⟩:=h.ok I.aK
  exact⟨ai,r,p,z⟩
 ·refine⟨ai.toList,r,⟨o,I.i8 a o hk,hc,n,by simpa using hs⟩,?_⟩
  have e:=r.length;simp only[Array.length_toList]at e;omega
theorem Inv.vO(I:Inv X pins σ H s)(h:ab X.K H a xs)(h':ab X.K H a ys):xs=ys:=by
 obtain⟨ai,r,⟨o,n,e,_,_,d⟩,_⟩:=I.list h;obtain⟨its',r',⟨o',n',e',_,_,d'⟩,_⟩:=I.list h';rw[e]at e';cases e';rw[d]at d';injection d' with d1 _;have:ai=its':=by simpa using congrArg Array.toList d1
 subst this;exact r.inj r'
end
abbrev Cx.kX(X:Cx)(E:Value->Shared->Prop):Cx:={X with xe:=E}
abbrev Cx.oC(X:Cx):Cx:=X.kX λ_ _=>False
theorem Cx.Ok.kX{X:Cx}(ok:X.Ok)(E:Value->Shared->Prop):(X.kX E).Ok:=⟨ok.mod,ok.kind,ok.glob,ok.blt,ok.above,ok.inj,ok.has,ok.vK,ok.hd,ok.frames,ok.y4,ok.y6,ok.bs,ok.lY,ok.vL,ok.vM,ok.j0,ok.pU⟩
theorem Cx.Ok.pV{X:Cx}{E:Value->Shared->Prop}(ok:(X.kX E).Ok):X.Ok:=⟨ok.mod,ok.kind,ok.glob,ok.blt,ok.above,ok.inj,ok.has,ok.vK,ok.hd,ok.frames,ok.y4,ok.y6,ok.bs,ok.lY,ok.vL,ok.vM,ok.j0,ok.pU⟩
section
variable{X:Cx}{pins:List (Addr×Obj)}{σ:St}{H:Hp}{s:Shared}{E:Value->Shared->Prop}
theorem Inv.kX(I:Inv X pins σ H s)(E:Value->Shared->Prop):Inv (X.kX E) pins σ H s:=⟨I.ok.kX E,I.os,I.bare,I.base,I.loc,I.cell,I.free,I.lZ,I.pin,I.aK,I.len⟩
theorem Inv.pV(I:Inv (X.kX E) pins σ H s):Inv X pins σ H s:=⟨I.ok.pV,I.os,I.bare,I.base,I.loc,I.cell,I.free,I.lZ,I.pin,I.aK,I.len⟩
theorem SP.pV{D:Ends}{f:Flow}{s':Shared}(h:SP (X.kX E) pins D f s'):SP X pins D f s':=by
 cases f with
 |next|brk|cont=>obtain⟨σ',H',I,q⟩:=h;exact⟨σ',H',I.pV,q⟩
 |ret u=>obtain⟨v,σ',H',I,r,q⟩:=h;exact⟨v,σ',H',I.pV,r,q⟩
theorem jB.oC{st:List Stmt}{t:TS}(h:jB X.oC st t):jB X st t:=λpins s σ H D I hw=>wpAny_mono (h pins s σ H D (I.kX _) hw) (λ_ _ q=>q.pV) λ_ _ z=>False.elim z
end
section
variable{X:Cx}{st:Stmt}{rest:List Stmt}{t u:TS}{e:Expr}{te:TE}{pos:Pos}
def iQ:TS:=λD σ H=>D.nx σ H
def fA(t u:TS):TS:=λD σ H=>t {D with nx:=u D} σ H
theorem bt:jB X [] iQ:=λ_ _ σ H _ I h=>wpAny_execs_nil ⟨σ,H,I,h⟩
theorem af(h1:PS X st t)(h2:jB X rest u):jB X (st::rest) (fA t u):=by
 intro pins s σ H D I h;refine wpAny_execs_cons (aV (h1 pins s σ H {D with nx:=u D} I h) λf s1 q=>?_);cases f with
 |next=>obtain⟨σ',H',I',q⟩:=q;exact h2 pins s1 σ' H' D I' q
 |ret v|brk|cont=>exact q
theorem ag(h1:PS X st t):jB X [st] t:=by
 intro pins s σ H D I h;refine wpAny_execs_cons (aV (h1 pins s σ H D I h) λf s1 q=>?_);cases f with
 |next=>exact wpAny_execs_nil q
 |ret v|brk|cont=>exact q
theorem Inv.quiet{pins:List (Addr×Obj)}{σ:St}{H:Hp}{s:Shared}(I:Inv X pins σ H s):interactive X.env=false:=by simp[interactive,I.ok.kind]
def y_(te:TE):TS:=λD σ H=>te σ H λ_ H1=>D.nx σ H1
theorem bF(he:PE X e te)(hs:swapsWith e none pos.line X.env=pure false:=by rfl):PS X (.Expr e pos) (y_ te):=by intro pins s σ H D I h;exact wpAny_Expr_any (aV (he pins s σ H _ I h) λv s1 ⟨x,H1,I1,r1,q1⟩=>⟨σ,H1,I1,q1⟩) I.quiet hs
def jC(te:TE):TS:=λD σ H=>te σ H D.rt
theorem aB(he:PE X e te):PS X (.Return (some e) pos) (jC te):=by intro pins s σ H D I h;exact wpAny_Return_some (aV (he pins s σ H _ I h) λv s1 ⟨x,H1,I1,r1,q1⟩=>⟨x,σ,H1,I1,r1,q1⟩)
def rC(c:TT)(t u:TS):TS:=λD σ H=>c σ H λb H1=>if b=true then t D σ H1 else u D σ H1
theorem a9{c:Expr}{a b:List Stmt}{tc:TT}(hc:PT X c tc)(ha:jB X a t)(hb:jB X b u):PS X (.If c a b pos) (rC tc t u):=by
 intro pins s σ H D I h;refine wpAny_If (aV (hc pins s σ H _ I h) λd s1 ⟨H1,I1,q1⟩=>?_);cases d with
 |true=>exact ha pins s1 σ H1 D I1 q1
 |false=>exact hb pins s1 σ H1 D I1 q1
end
abbrev TG:=V->St->Hp->(St->Hp->Prop)->Prop
abbrev pW:=List V->St->Hp->(St->Hp->Prop)->Prop
def PG(X:Cx)(target:Expr)(t:TG):Prop:=
 ∀(pins:List (Addr×Obj)) (s:Shared) (σ:St) (H:Hp) (v:V) (u:Value) (Q:St->Hp->Prop),Inv X pins σ H s->RelV v u->t v σ H Q->
  wpAny (model X.prog X.w) X.A (assign target X.env u) (λ_ s'=>∃σ' H',Inv X pins σ' H' s'/\ Q σ' H') X.xe s
def vP(X:Cx)(ts:List Expr)(t:pW):Prop:=
 ∀(pins:List (Addr×Obj)) (s:Shared) (σ:St) (H:Hp) (vs:List V) (us:List Value) (Q:St->Hp->Prop),Inv X pins σ H s->Vals vs us->t vs σ H Q->
  wpAny (model X.prog X.w) X.A (assignInOrder ((assignEach ts X.env).map (·.2)) us) (λ_ s'=>∃σ' H',Inv X pins σ' H' s'/\ Q σ' H') X.xe s
abbrev CM:=V->V->V->Hp->(Hp->Prop)->Prop
def JY(X:Cx)(t:CM):Prop:=
 ∀(pins:List (Addr×Obj)) (s:Shared) (σ:St) (H:Hp) (o i v:V) (ov iv u:Value) (Q:Hp->Prop),Inv X pins σ H s->RelV o ov->RelV i iv->RelV v u->t o i v H Q->
  wpAny (model X.prog X.w) X.A (setItem ov iv u) (λ_ s'=>∃H',Inv X pins σ H' s'/\ Q H') X.xe s
abbrev CN:=V->V->Hp->VK->Prop
def Sv(X:Cx)(op:Operator)(t:CN):Prop:=
 ∀(pins:List (Addr×Obj)) (s:Shared) (σ:St) (H:Hp) (x y:V) (v u:Value) (Q:VK),Inv X pins σ H s->RelV x v->RelV y u->t x y H Q->
  wpAny (model X.prog X.w) X.A (inplaceOp op v u) (EP X pins σ Q) X.xe s
section
variable{X:Cx}{pos:Pos}
def ik(i:Nat):TG:=λv σ H Q=>Q (σ.set i (some v)) H
theorem Sw{i:Nat}{x:Str}(hN:X.N.Nodup)(hi:X.N[i]? =some x)(hx:Loc X.env.scope x)(hf:X.fn x=true\/X.env.scope.names.lookup x=some .local:=by first|exact .inl U|exact .inr U|assumption):PG X (.Name x pos) (ik i):=by intro pins s σ H v u Q I r h;exact wpAny_assign_Name (CJ I hN hi hx r (λs' I'=>⟨_,H,I',h⟩) hf)
def za:pW:=λvs σ H Q=>vs=[]/\ Q σ H
def rD(t:TG)(u:pW):pW:=λvs σ H Q=>∃v r,vs=v::r/\ t v σ H λσ' H'=>u r σ' H' Q
theorem tV:vP X [] za:=by intro pins s σ H vs us Q I r h;obtain⟨e,h⟩:=h;subst e;cases r;exact assignInOrder_nil ⟨σ,H,I,h⟩
theorem kY{e:Expr}{es:List Expr}{t:TG}{u:pW}(h1:PG X e t)(h2:vP X es u)
  (hs:(assignEach (e::es) X.env).map (·.2)=assign e X.env::(assignEach es X.env).map (·.2):=by rfl):vP X (e::es) (rD t u):=by
 intro pins s σ H vs us Q I r h;obtain⟨v,vr,e1,h⟩:=h;subst e1;cases r with
 |cons r rr=>rw[hs];refine assignInOrder_cons (aV (h1 pins s σ H _ _ _ I r h) λ_ s1 ⟨σ1,H1,I1,q1⟩=>?_);exact h2 pins s1 σ1 H1 _ _ Q I1 rr q1
def vQ(K:PySem.W.Frag)(n:Nat)(t:pW):TG:=λv σ H Q=>∃a xs,v= .ref a/\ bz K H a xs/\ xs.length=n/\ t xs σ H Q
theorem CO{es:List Expr}{k:Nat}{t:pW}{n:Nat}(hc:X.calm=true)(h:vP X es t)
  (hn:(assignEach es X.env).length=n:=by rfl) (cD:(assignEach es X.env).findIdx? (·.1)=none:=by rfl):PG X (.Tuple es k pos) (vQ X.K n t):=by
 intro pins s σ H v u Q I r hw;obtain⟨a,xs,e1,hq,hl,hw⟩:=hw;subst e1;cases r;obtain⟨ai,rv,ht,hz⟩:=I.tuple hq;refine assign_Tuple_tuple (I.ok.hd hc) ht (by simp[hn,<-hl,rv.length]) cD λh' hx=>?_;have I1:Inv X pins σ H {s with heap:=h'}:=I.kept (t':=s.toks) λb o e=>hx b o (f6 (Heap.lt_size e)) e;exact h pins _ σ H xs _ Q I1 (by simpa using rv) hw
def Sx(to ti:TE)(t:CM):TG:=λv σ H Q=>to σ H λo H1=>ti σ H1 λi H2=>t o i v H2 λH3=>Q σ H3
theorem tW{o i:Expr}{to ti:TE}{t:CM}(ho:PE X o to)(hi:PE X i ti)(hs:JY X t)
  (ha:∀v,assign (.Subscript o i pos) X.env v=(do
   let ov<-holding [v] (eval o X.env);let iv<-holding [v,ov] (eval i X.env)
   standAt pos
   holding [v,ov,iv] (setItem ov iv v)
   release [v,ov,iv] []):=by intro _;rfl):PG X (.Subscript o i pos) (Sx to ti t):=by
 intro pins s σ H v u Q I r h;rw[ha];refine wpAny_bind (wpAny_holding (aV (ho pins s σ H _ I h) λov s1 ⟨x,H1,I1,r1,q1⟩=>?_));refine wpAny_bind (wpAny_holding (aV (hi pins s1 σ H1 _ I1 q1) λiv s2 ⟨y,H2,I2,r2,q2⟩=>?_));refine wpAny_bind (wpAny_standAt (wpAny_bind (wpAny_holding (aV (hs pins s2 σ H2 x y v ov iv u _ I2 r1 r2 r q2) λ_ s3 ⟨H3,I3,q3⟩=>?_))));exact wpAny_release ⟨σ,H3,I3,q3⟩
def oE(te:TE)(g:TG):TS:=λD σ H=>te σ H λx H1=>g x σ H1 D.nx
theorem tX{tg e:Expr}{te:TE}{g:TG}(he:PE X e te)(hg:PG X tg g)(hs:swapsWithSole [tg] e pos.line X.env=pure false:=by rfl)(hw:swappedStores [tg] e X.env=pure none:=by rfl)
  (h1:(assignEach [tg] X.env).map (·.2)=[assign tg X.env]:=by rfl):PS X (.Assign [tg] e pos) (oE te g):=by
 intro pins s σ H D I h;refine wpAny_Assign_stores (aV (he pins s σ H _ I h) λv s1 ⟨x,H1,I1,r1,q1⟩=>?_) hs hw;rw[h1];exact aV (hg pins s1 σ H1 x v _ I1 r1 q1) λ_ s2 q=>q
theorem Sy{i:Nat}{x:Str}{e:Expr}{te:TE}{pos':Pos}(hN:X.N.Nodup)(hi:X.N[i]? =some x)(hx:Loc X.env.scope x)(he:PE X e te)(hs:swapsWith e (some (.Name x pos')) pos.line X.env=pure false:=by rfl)(hf:X.fn x=true\/X.env.scope.names.lookup x=some .local:=by first|exact .inl U|exact .inr U|assumption):
  PS X (.Assign [.Name x pos'] e pos) (oE te (ik i)):=by
 intro pins s σ H D I h;refine wpAny_Assign_Name (aV (he pins s σ H _ I h) λv s1 ⟨y,H1,I1,r1,q1⟩=>?_) hs;exact CJ I1 hN hi hx r1 (λs2 I2=>⟨_,H1,I2,q1⟩) hf
def JZ(i:Nat)(te:TE)(ti:CN):TS:=λD σ H=>∃x,σ[i]? =some (some x)/\ te σ H λy H1=>ti x y H1 λz H2=>D.nx (σ.set i (some z)) H2
theorem vR{i:Nat}{x:Str}{e:Expr}{te:TE}{op:Operator}{ti:CN}{pos':Pos}(hN:X.N.Nodup)(hi:X.N[i]? =some x)(hx:Loc X.env.scope x)(he:PE X e te)(ho:Sv X op ti)(hf:X.fn x=true\/X.env.scope.names.lookup x=some .local:=by first|exact .inl U|exact .inr U|assumption):
  PS X (.AugAssign (.Name x pos') op e pos) (JZ i te ti):=by
 intro pins s σ H D I h;obtain⟨v,e1,h⟩:=h;obtain⟨m,hn,hl⟩:=I.loc;have vis:tR X.env.scope x:=by rcases hx with k|k;exact .inl k;exact .inr (.inl k)
 obtain⟨u,r,l⟩:=hl i x v hi e1 vis;refine wpAny_AugAssign_Name ?_;have go:wpAny (model X.prog X.w) X.A (eval e X.env) (λw s₂=>wpAny (model X.prog X.w) X.A (inplaceOp op u w) (λr s₃=>wpAny (model X.prog X.w) X.A (storeName X.env x r) (λ_=>SP X pins D .next) X.xe s₃) X.xe s₂) X.xe s:=by refine aV (he pins s σ H _ I h) λw s1 ⟨y,H1,I1,r1,q1⟩=>?_;refine aV (ho pins s1 σ H1 v y u w _ I1 r r1 q1) λz s2 ⟨zv,H2,I2,r2,q2⟩=>?_;exact CJ I2 hN hi hx r2 (λs3 I3=>⟨_,H2,I3,q2⟩) hf
 rcases l with⟨hk,hm⟩|⟨hk,c,hc,hcell⟩
 ·exact wpAny_loadName_local I.ok.kind hk hn hm go
 ·rcases hk with hk|hk
  ·exact wpAny_loadName_cell I.ok.kind hk hc hcell go
  ·rcases hx with k|k
   ·have:X.env.scope.names.lookup x=some .free:=hk
    rw[k]at this;cases this
   ·have:X.env.scope.names.lookup x=some .free:=hk
    rw[k]at this;cases this
end
section
variable{X:Cx}{pos:Pos}
def J0(c:TT)(tb:TS):TS:=λD σ H=>∃W:Nat->St->Hp->Prop,(∃m,W m σ H)/\ ∀m σ H,W m σ H->
 c σ H λb H1=>if b=true then∃N:St->Hp->Prop,(∀σ' H',N σ' H'->∃m',m'<m/\ W m' σ' H')/\ tb {D with nx:=N,ct:=N,bk:=D.nx} σ H1 else D.nx σ H1
theorem j3{c:Expr}{body:List Stmt}{tc:TT}{tb:TS}(hp:PassesOwn (model X.prog X.w) X.A X.env X.xe)(hc:PT X c tc)(hb:jB X body tb):PS X (.While c body [] pos) (J0 tc tb):=by
 intro pins s σ H D I h;obtain⟨W,⟨m0,w0⟩,turn⟩:=h;refine wpAny_While (codeAny_whileLoop (λn s'=>∃σ' H',Inv X pins σ' H' s'/\ W n σ' H') ?_ m0 ⟨σ,H,I,w0⟩);rintro n s1 ⟨σ1,H1,I1,w1⟩;refine wpAny_passesOwn hp (aV (hc pins s1 σ1 H1 _ I1 (turn n σ1 H1 w1)) λb s2 ⟨H2,I2,q2⟩=>?_);cases b with
 |true=>
  obtain⟨N,hN,q2⟩:=q2;rw[if_pos U];refine wpAny_passesOwn hp (aV (hb pins s2 σ1 H2 _ I2 q2) λf s3 q3=>?_);cases f with
  |next|cont=>obtain⟨σ3,H3,I3,n3⟩:=q3;obtain⟨m',hm,w3⟩:=hN σ3 H3 n3;exact⟨m',hm,σ3,H3,I3,w3⟩
  |brk|ret v=>exact q3
 |false=>rw[if_neg fL];exact wpAny_execs_nil ⟨σ1,H2,I2,q2⟩
end
structure It where
 go:Nat->Hp->Prop
 j4:Nat->Hp->V->Hp->Prop
 stop:Nat->Hp->Prop
def j5(X:Cx)(pins:List (Addr×Obj))(H:Hp)(b:Addr):Prop:=H b=none/\ b≠X.env.locals/\ b∉X.fs/\ (b∈X.ex\/X.gd.heap.objs.size<=b)/\ (∀x c,X.env.cells.lookup x=some c->c≠b)/\ ∀p∈X.pn++pins,p.1≠b
theorem Inv.rE{X:Cx}{pins:List (Addr×Obj)}{σ:St}{H H':Hp}{s:Shared}{b:Addr}(I:Inv X pins σ H s)(hb:s.heap.objs.size<=b)(hn:H' b=none):j5 X pins H' b:=by
 refine⟨hn,Nat.ne_of_gt (gT I.lt hb),I.Sj hb, .inr (cO I.sz hb),λx c e z=>?_,λp hp z=>?_⟩
 ·obtain⟨v,q⟩:=I.cell x c e
  exact absurd (gT q.lt (by rw[z];exact hb)) (kJ _)
 ·exact absurd (gT (Heap.lt_size (I.pin p hp).1) (by rw[z];exact hb)) (kJ _)
structure Turn(P:Program)(w:World)(K:PySem.W.Frag)(tg:Expr)(J:It)(fp:List Addr)(it:Addr)(tn:Nat->Heap->Prop):Prop where
 mem:it∈fp
 obj:∀i h,tn i h->∀b∈fp,∃o,h.get? b=some o/\ ∀v,o.data≠ .cell v
 keep:∀i h h',tn i h->(∀b∈fp,∀o,h.get? b=some o->h'.get? b=some o)->tn i h'
 item:∀(X:Cx),X.prog=P->X.w=w->X.K=K->X.calm=true->∀(i:Nat) (pins:List (Addr×Obj)) (s:Shared) (σ:St) (H:Hp) (E:Value->Shared->Prop),Inv X pins σ H s->(∀b∈fp,j5 X pins H b)->tn i s.heap->J.go i H->
  wpAny (model P w) X.A (pyNext (.ref it)) (λr s1=>∃u,r=some u/\
   wpAny (model P w) X.A (letOwnedTupleGo tg (.ref it) u) (λ_ s2=>∃x H',Inv X pins σ H' s2/\ RelV x u/\ J.j4 i H x H'/\ tn (i+1) s2.heap/\ ∀b∈fp,H' b=none) E s1) E s
 done:∀(X:Cx),X.prog=P->X.w=w->X.K=K->X.calm=true->∀(i:Nat) (pins:List (Addr×Obj)) (s:Shared) (σ:St) (H:Hp) (E:Value->Shared->Prop),Inv X pins σ H s->(∀b∈fp,j5 X pins H b)->tn i s.heap->J.stop i H->
  wpAny (model P w) X.A (pyNext (.ref it)) (λr s1=>r=none/\ Inv X pins σ H s1) E s
 self:∀(A:Around) (i:Nat) (s:Shared) (Q:Value->Shared->Prop) (E:Value->Shared->Prop),tn i s.heap->Q (.ref it) s->wpAny (model P w) A (pyIter (.ref it)) Q E s
abbrev TI:=St->Hp->(It->Hp->Prop)->Prop
def CP(X:Cx)(pins:List (Addr×Obj))(σ:St)(tg:Expr)(R:It->Hp->Prop)(itv:Value)(s2:Shared):Prop:=∃(it:Addr) (fp:List Addr) (tn:Nat->Heap->Prop) (J:It) (H':Hp),itv= .ref it/\ Inv X pins σ H' s2/\ Turn X.prog X.w X.K tg J fp it tn/\ tn 0 s2.heap/\ (∀b∈fp,j5 X pins H' b)/\ R J H'
def PI(X:Cx)(tg iter:Expr)(wi:TI):Prop:=
 ∀(pins:List (Addr×Obj)) (s:Shared) (σ:St) (H:Hp) (R:It->Hp->Prop),Inv X pins σ H s->wi σ H R->
  wpAny (model X.prog X.w) X.A (eval iter X.env) (λv s1=>wpAny (model X.prog X.w) X.A (pyIter v) (CP X pins σ tg R) X.xe s1) X.xe s
theorem vS{M:Model}{A:Around}{E:Value->Shared->Prop}{s:Shared}{tg:Expr}{it:Addr}{u:Value}{o:Obj}{n:String}{vs:Array Value}{Q:Unit->Shared->Prop}(ho:s.heap.get? it=some o)(hc:o.cls= .type n)(hd:o.data= .fields vs)
  (hn:["enumerate","zip","dict_itemiterator","dict_reverseitemiterator","odict_iterator","itertools.zip_longest","itertools.pairwise"].contains n=false) (hQ:Q () s):wpAny M A (letOwnedTupleGo tg (.ref it) u) Q E s:=by
 unfold letOwnedTupleGo;cases tg<;>first
  |exact wpAny_pure hQ
  |(cases u<;>first
    |exact wpAny_pure hQ
    |(refine wpAny_bind (wpAny_load ho ?_)
      rw[hc,hd];show wpAny M A (if(["enumerate","zip","dict_itemiterator","dict_reverseitemiterator","odict_iterator","itertools.zip_longest","itertools.pairwise"].contains n&&vs[0]? ==some (rawInt _))=true then _ else _) Q E s;rw[if_neg (by intro h;rw[hn,n8]at h;cases h)];exact wpAny_pure hQ))
def pX(K:PySem.W.Frag)(a:Addr):It:=⟨λi H=>∃xs x,ab K H a xs/\ xs[i]? =some x,λi H x H'=>H'=H/\ ∀xs,ab K H a xs->xs[i]? =some x,λi H=>∃xs,ab K H a xs/\ xs.length<=i⟩
def tY(lo:Int)(n:Nat):It:=⟨λi _=>i<n,λi H x H'=>H'=H/\ x= .int (lo+i),λi _=>n<=i⟩
theorem SA{P:Program}{w:World}{K:PySem.W.Frag}{tg:Expr}(a it:Addr):Turn P w K tg (pX K a) [it] it (λi h=>h.IsListIter it a i) where
 mem:=by simp
 obj:=λi h st b hb=>by
  have e:b=it:=by simpa using hb
  subst e;obtain⟨o,e,c,d⟩:=st;exact⟨o,e,λv z=>by rw[d]at z;cases z⟩
 keep:=λi h h' st k=>st.at λo e=>k it (by simp) o e
 item:=by intro X hP hw hK hc i pins s σ H E I hf st hg;subst hP hw hK;obtain⟨xs,x,hq,hx⟩:=hg;obtain⟨ai,rv,p,hz⟩:=I.list hq;obtain⟨u,hu,ru⟩:=rv.get hx;obtain⟨f0,f1,f2,f3,f4,f5⟩:=hf it (by simp);refine wpAny_pyNext_list_item st p.isList (x:=u) (by simpa using hu) λh' ja sb=>?_;have I1:Inv X pins σ H {s with heap:=h'}:=I.turned (t':=s.toks) (λb o hb e=>(sb.2 b hb).trans e) f0 f1 f3 f4 f5;obtain⟨o,e,c,d⟩:=id ja;exact⟨u,U,vS (s:={s with heap:=h'}) e c d (by decide) ⟨x,H,I1,ru,⟨U,λys hy=>by rw[I.vO hy hq];exact hx⟩,ja,λb hb=>(hf b hb).1⟩⟩
 done:=by intro X hP hw hK hc i pins s σ H E I hf st hg;subst hP hw hK;obtain⟨xs,hq,hx⟩:=hg;obtain⟨ai,rv,p,hz⟩:=I.list hq;obtain⟨f0,f1,f2,f3,f4,f5⟩:=hf it (by simp);have hl:=rv.length;exact wpAny_pyNext_list_end (I.ok.hd hc) st p.isList (by simp;omega) λh' eb=>⟨U,I.turned (t':=s.toks) (λb o hb e=>eb b o hb e) f0 f1 f3 f4 f5⟩
 self:=λ_ _ _ _ _ st h=>wpAny_pyIter_listiter st h
theorem SD{P:Program}{w:World}{K:PySem.W.Frag}{tg:Expr}(it:Addr)(lo:Int)(n:Nat):Turn P w K tg (tY lo n) [it] it (λi h=>IsRangeIter h it (lo+(i:Nat)*1) ((n:Int)-(i:Nat)) 1) where
 mem:=by simp
 obj:=λi h st b hb=>by
  have e:b=it:=by simpa using hb
  subst e;exact⟨_,st,λv z=>by have z':Data.fields _=Data.cell v:=z;cases z'⟩
 keep:=λi h h' st k=>k it (by simp) _ st
 item:=by intro X hP hw hK hc i pins s σ H E I hf st hg;subst hP hw hK;obtain⟨f0,f1,f2,f3,f4,f5⟩:=hf it (by simp);have W:=Walks.range (prog:=X.prog) (w:=X.w) (I.ok.hd hc) it lo 1 n;refine W.item i s _ _ hg st λv h' tk hv ja kk=>?_;obtain⟨t,rfl⟩:=hv;have I1:Inv X pins σ H {s with heap:=h',toks:=tk}:=I.turned (λb o hb e=>kk b o (by simpa using hb) e) f0 f1 f3 f4 f5;refine⟨_,U,vS (s:={s with heap:=h',toks:=tk}) (n:="range_iterator") ja U U (by decide) ⟨.int (lo+i),H,I1,⟨t,?_⟩,⟨U,U⟩,ja,λb hb=>(hf b hb).1⟩⟩;rw[Int.mul_one]
 done:=by intro X hP hw hK hc i pins s σ H E I hf st hg;subst hP hw hK;obtain⟨f0,f1,f2,f3,f4,f5⟩:=hf it (by simp);exact wpAny_pyNext_range_end (I.ok.hd hc) st (by have:n<=i:=hg;omega) λh' eb=>⟨U,I.turned (t':=s.toks) (λb o hb e=>eb b o hb e) f0 f1 f3 f4 f5⟩
 self:=λ_ _ _ _ _ st h=>wpAny_pyIter_rangeiter st h
end L2
namespace L2
open PySem PySem.Spec PyProof.Rows
section
variable{X:Cx}{tg:Expr}
def J1(K:PySem.W.Frag)(tl:TE):TI:=λσ H R=>tl σ H λx H1=>∃a,x= .ref a/\ (∃xs,ab K H1 a xs)/\ R (pX K a) H1
theorem eE{l:Expr}{tl:TE}(hl:PE X l tl):PI X tg l (J1 X.K tl):=by
 intro pins s σ H R I h;refine aV (hl pins s σ H _ I h) λv s1 ⟨x,H1,I1,r1,q1⟩=>?_;obtain⟨a,e,⟨xs,hq⟩,q⟩:=q1;subst e;cases r1;obtain⟨ai,rv,p,hz⟩:=I1.list hq;refine wpAny_pyIter_list p.isList ?_;refine⟨s1.heap.objs.size,[s1.heap.objs.size],_,_,H1,U,I1.kept (t':=s1.toks) λb o e=>Heap.get?_push_of_some _ e,SA a _,⟨_,Heap.get?_push_size _ U,U,U⟩,λb hb=>?_,q⟩;have e:b=s1.heap.objs.size:=by simpa using hb
 subst e;exact I1.rE (aM _) (I1.aK.fresh (aM _))
theorem SE{pins:List (Addr×Obj)}{σ:St}{H:Hp}{s:Shared}{R:It->Hp->Prop}{E:Value->Shared->Prop}{lo hi:Int}{t u v:Tok}{tk:Nat}(I:Inv X pins σ H s)(h1: -(2^62)<=lo)(h2:lo<2^62)(h3: -(2^62)<=hi)(h4:hi<2^62)
  (q:R (tY lo (hi-lo).toNat) H):wpAny (model X.prog X.w) X.A (pyIter (.ref s.heap.objs.size)) (CP X pins σ tg R) E {s with heap:=s.heap.push {cls:= .type "range",data:= .fields #[.int lo t, .int hi u, .int 1 v]},toks:=tk}:=by
 refine wpAny_pyIter_range (IsRange.new ..) (small_one h1 h2 h3 h4) ?_;have I1:Inv X pins σ H {s with heap:=s.heap.push {cls:= .type "range",data:= .fields #[.int lo t, .int hi u, .int 1 v]},toks:=tk}:=I.kept λb o e=>Heap.get?_push_of_some _ e;refine⟨(s.heap.push {cls:= .type "range",data:= .fields #[.int lo t, .int hi u, .int 1 v]}).objs.size,[(s.heap.push {cls:= .type "range",data:= .fields #[.int lo t, .int hi u, .int 1 v]}).objs.size],_,_,H,U,
  I1.kept (t':=tk) λb o e=>Heap.get?_push_of_some _ e,SD _ lo (hi-lo).toNat,?_,λb hb=>?_,q⟩
 ·have e1:lo+((0:Nat):Int)*1=lo:=by simp
  have e2:(((hi-lo).toNat:Nat):Int)-((0:Nat):Int)=Builtin.Range.rangeSize lo hi 1:=by rw[rangeSize_one];split<;>omega
  show IsRangeIter _ _ (lo+((0:Nat):Int)*1) ((((hi-lo).toNat:Nat):Int)-((0:Nat):Int)) 1;rw[e1,e2];exact Heap.get?_push_size _ U
 ·have e:b=(s.heap.push {cls:= .type "range",data:= .fields #[.int lo t, .int hi u, .int 1 v]}).objs.size:=by simpa using hb
  subst e;exact I1.rE (aM _) (I1.aK.fresh (aM _))
def SF(ta:TA):TI:=λσ H R=>ta σ H λvs H1=>∃j:Int,vs=[.int j]/\ -(2^62)<=j/\ j<2^62/\ R (tY 0 j.toNat) H1
theorem J2{a:Expr}{ta:TA}{p pos:Pos}(hg:Gl X "range")(hm:X.mg "range"=none)(ha:PA X [a] ta)(hs:starEach [a] X.env=[(false,eval a X.env)]:=by rfl):PI X tg (.Call (.Name "range" p) [a] [] pos) (SF ta):=by
 intro pins s σ H R I h;refine Call_ (oA I hg hm boot_range (PyProof.Rows.callWith_type1 (aV (ha pos pins s σ H _ I h) λus s1 ⟨vs,H1,I1,r1,q1⟩=>?_) hs U));obtain⟨j,e,q1,q2,q⟩:=q1;subst e;cases r1 with
 |cons r rr=>
  cases rr;obtain⟨t,rfl⟩:=r;exact call_range_1 (SE I1 (by omega) (by omega) q1 q2 (by simpa using q))
def J3(wi:TI)(g:TG)(tb:TS):TS:=λD σ H=>wi σ H λJ H1=>∃W:Nat->Nat->St->Hp->Prop,(∃m,W 0 m σ H1)/\ ∀i m σ H,W i m σ H->
 (J.stop i H/\ D.nx σ H)\/(J.go i H/\ ∃N:St->Hp->Prop,(∀σ' H',N σ' H'->∃m',m'<m/\ W (i+1) m' σ' H')/\ ∀x H',J.j4 i H x H'->g x σ H' λσ2 H2=>tb {D with nx:=N,ct:=N,bk:=D.nx} σ2 H2)
def vT(fp:List Addr)(h:Heap):List (Addr×Obj):=fp.filterMap λb=>(h.get? b).map λo=>(b,o)
theorem CQ{fp:List Addr}{h:Heap}{b:Addr}{o:Obj}(hb:b∈fp)(e:h.get? b=some o):(b,o)∈vT fp h:=sX.mpr ⟨b,hb,by rw[e];rfl⟩
theorem SG{fp:List Addr}{h:Heap}{p:Addr×Obj}(hp:p∈vT fp h):p.1∈fp/\ h.get? p.1=some p.2:=by
 obtain⟨b,hb,e⟩:=sX.mp hp;cases q:h.get? b with
 |none=>rw[q]at e;cases e
 |some o=>rw[q]at e;have e':(b,o)=p:=ay e;subst e';exact⟨hb,q⟩
theorem Inv.pinned{pins:List (Addr×Obj)}{σ:St}{H:Hp}{s:Shared}{fp:List Addr}(I:Inv X pins σ H s)(hf:∀b∈fp,j5 X pins H b)(ho:∀b∈fp,∃o,s.heap.get? b=some o/\ ∀v,o.data≠ .cell v):Inv X (pins++vT fp s.heap) σ H s:=
 I.JQ λp hp=>(cN.mp hp).elim (λz=>I.pin p (iY _ z)) λz=>by obtain⟨hb,e⟩:=SG z;obtain⟨f0,f1,f2,_⟩:=hf p.1 hb;obtain⟨o,e',d⟩:=ho p.1 hb;rw[e]at e';cases e';exact⟨e,f0,f1,f2,d⟩
theorem Inv.zb{pins pl:List (Addr×Obj)}{σ:St}{H:Hp}{s:Shared}(I:Inv X (pins++pl) σ H s):Inv X pins σ H s:=I.JQ λp hp=>I.pin p (iY _ (mT _ hp))
theorem eZ{iter:Expr}{body:List Stmt}{wi:TI}{g:TG}{tb:TS}{pos:Pos}(hp:PassesOwn (model X.prog X.w) X.A X.env X.xe)(hc:X.calm=true)(hi:PI X tg iter wi)(hg:PG X tg g)(hb:jB X body tb)
  (hs:∀x,foldedSetIterable iter X.env x=pure x:=by intro _;rfl):PS X (.For tg iter body [] pos) (J3 wi g tb):=by
 intro pins s σ H D I h;refine wpAny_For (aV (hi pins s σ H _ I h) λv s1 h1=>aV h1 λitv s2 h2=>?_) hs;obtain⟨it,fp,tn,J,H2,e,I2,T,zc,f2,W,⟨m0,w0⟩,turn⟩:=h2;subst e;have stat:∀{H':Hp},(∀b∈fp,H' b=none)->∀b∈fp,j5 X pins H' b:=λhn b hb=>⟨hn b hb,(f2 b hb).2⟩
 refine codeAny_forLoop_any (λn s'=>∃i σ' H',Inv X pins σ' H' s'/\ tn i s'.heap/\ (∀b∈fp,H' b=none)/\ W i n σ' H') ?_ m0 ⟨0,σ,H2,I2,zc,λb hb=>(f2 b hb).1,w0⟩;rintro n s3 ⟨i,σ3,H3,I3,zd,J4,w3⟩;rcases turn i n σ3 H3 w3 with⟨stop,qn⟩|⟨go,N,hN,step⟩
 ·refine wpAny_passesOwn hp (aV (T.done X U U U hc i pins s3 σ3 H3 X.xe I3 (stat J4) zd stop) λr s4 ⟨hr,I4⟩=>?_)
  subst hr;exact wpAny_execs_nil ⟨σ3,H3,I4,qn⟩
 ·refine wpAny_passesOwn hp (aV (T.item X U U U hc i pins s3 σ3 H3 X.xe I3 (stat J4) zd go) λr s4 ⟨u,hr,h4⟩=>?_)
  subst hr;refine wpAny_passesOwn hp (aV h4 λ_ s5 ⟨x,H5,I5,r5,y5,tZ,SH⟩=>?_);have I5':=I5.pinned (stat SH) (T.obj _ _ tZ);refine wpAny_passesOwn hp (aV (hg _ s5 σ3 H5 x u _ I5' r5 (step x H5 y5)) λ_ s6 ⟨σ6,H6,I6,q6⟩=>?_);refine wpAny_passesOwn hp (aV (hb _ s6 σ6 H6 _ I6 q6) λf s7 q7=>?_);have again:∀{σ7:St} {H7:Hp},Inv X (pins++vT fp s5.heap) σ7 H7 s7->N σ7 H7->∃m,m<n/\ ∃i σ' H',Inv X pins σ' H' s7/\ tn i s7.heap/\ (∀b∈fp,H' b=none)/\ W i m σ' H':=λ{σ7 H7} I7 n7=>by obtain⟨m',hm,w7⟩:=hN σ7 H7 n7;refine⟨m',hm,i+1,σ7,H7,I7.zb,T.keep _ _ _ tZ λb hb o e=>(I7.pin (b,o) (iY _ (iY _ (CQ hb e)))).1,λb hb=>?_,w7⟩;obtain⟨o,e,d⟩:=T.obj _ _ tZ b hb;exact(I7.pin (b,o) (iY _ (iY _ (CQ hb e)))).2.1
  cases f with
  |next|cont=>obtain⟨σ7,H7,I7,n7⟩:=q7;exact again I7 n7
  |brk=>obtain⟨σ7,H7,I7,q7⟩:=q7;exact⟨σ7,H7,I7.zb,q7⟩
  |ret v=>obtain⟨x7,σ7,H7,I7,r7,q7⟩:=q7;exact⟨x7,σ7,H7,I7.zb,r7,q7⟩
end
theorem gL{K:PySem.W.Frag}{a:Addr}{xs:List V}{g:TG}{tb:TS}{D:Ends}{σ:St}{H:Hp}(Pv:Nat->St->Hp->Prop)(h0:Pv 0 σ H)(hl:∀i σ H,i<=xs.length->Pv i σ H->ab K H a xs)
  (hs:∀i x σ H,xs[i]? =some x->Pv i σ H->g x σ H λσ2 H2=>tb {D with nx:=Pv (i+1),ct:=Pv (i+1),bk:=D.nx} σ2 H2) (hd:∀σ H,Pv xs.length σ H->D.nx σ H):
  ∃W:Nat->Nat->St->Hp->Prop,(∃m,W 0 m σ H)/\ ∀i m σ H,W i m σ H->
   ((pX K a).stop i H/\ D.nx σ H)\/((pX K a).go i H/\ ∃N:St->Hp->Prop,(∀σ' H',N σ' H'->∃m',m'<m/\ W (i+1) m' σ' H')/\ ∀x H',(pX K a).j4 i H x H'->g x σ H' λσ2 H2=>tb {D with nx:=N,ct:=N,bk:=D.nx} σ2 H2):=by
 refine⟨λi m σ H=>m=xs.length-i/\ i<=xs.length/\ Pv i σ H,⟨xs.length,by simp,bj _,h0⟩,?_⟩;rintro i m σ H ⟨rfl,hi,p⟩;have q:=hl i σ H hi p;by_cases aU:i<xs.length
 ·refine .inr ⟨⟨xs,xs[i],q,by simp[aU]⟩,Pv (i+1),λσ' H' p'=>⟨xs.length-(i+1),by omega,U,aU,p'⟩,λx H' y=>?_⟩
  obtain⟨e,y⟩:=y;subst e;exact hs i x σ _ (y xs q) p
 ·have e:i=xs.length:=by omega
  subst e;exact .inl ⟨⟨xs,q,aM _⟩,hd σ H p⟩
theorem J5{lo:Int}{n:Nat}{g:TG}{tb:TS}{D:Ends}{σ:St}{H:Hp}(Pv:Nat->St->Hp->Prop)(h0:Pv 0 σ H)
  (hs:∀i σ H,i<n->Pv i σ H->g (.int (lo+i)) σ H λσ2 H2=>tb {D with nx:=Pv (i+1),ct:=Pv (i+1),bk:=D.nx} σ2 H2) (hd:∀σ H,Pv n σ H->D.nx σ H):
  ∃W:Nat->Nat->St->Hp->Prop,(∃m,W 0 m σ H)/\ ∀i m σ H,W i m σ H->
   ((tY lo n).stop i H/\ D.nx σ H)\/((tY lo n).go i H/\ ∃N:St->Hp->Prop,(∀σ' H',N σ' H'->∃m',m'<m/\ W (i+1) m' σ' H')/\ ∀x H',(tY lo n).j4 i H x H'->g x σ H' λσ2 H2=>tb {D with nx:=N,ct:=N,bk:=D.nx} σ2 H2):=by
 refine⟨λi m σ H=>m=n-i/\ i<=n/\ Pv i σ H,⟨n,by simp,bj _,h0⟩,?_⟩;rintro i m σ H ⟨rfl,hi,p⟩;by_cases aU:i<n
 ·refine .inr ⟨aU,Pv (i+1),λσ' H' p'=>⟨n-(i+1),by omega,U,aU,p'⟩,λx H' y=>?_⟩
  obtain⟨e,y⟩:=y;subst e y;exact hs i σ _ aU p
 ·have e:i=n:=by omega
  subst e;exact .inl ⟨aM _,hd σ H p⟩
end L2
namespace L2
open PySem PySem.Spec PyProof.Rows
abbrev R2:=V->V->Hp->VK->Prop
def dN(X:Cx)(f:Value->Value->Sem Value)(r:R2):Prop:=
 ∀(pins:List (Addr×Obj)) (s:Shared) (σ:St) (H:Hp) (x y:V) (v u:Value) (Q:VK),Inv X pins σ H s->RelV x v->RelV y u->r x y H Q->
  wpAny (model X.prog X.w) X.A (f v u) (EP X pins σ Q) X.xe s
def CS(X:Cx)(f:Value->Sem Value)(r:V->Hp->VK->Prop):Prop:=
 ∀(pins:List (Addr×Obj)) (s:Shared) (σ:St) (H:Hp) (x:V) (v:Value) (Q:VK),Inv X pins σ H s->RelV x v->r x H Q->
  wpAny (model X.prog X.w) X.A (f v) (EP X pins σ Q) X.xe s
def jD(X:Cx)(f:Value)(r:List V->Hp->VK->Prop):Prop:=
 ∀(pins:List (Addr×Obj)) (s:Shared) (σ:St) (H:Hp) (xs:List V) (us:List Value) (Q:VK),Inv X pins σ H s->Vals xs us->r xs H Q->
  wpAny (model X.prog X.w) X.A (call f us) (EP X pins σ Q) X.xe s
def cw(r:R2)(ta tb:TE):TE:=λσ H Q=>ta σ H λx H1=>tb σ H1 λy H2=>r x y H2 Q
def ze(r:V->Hp->VK->Prop)(ta:TE):TE:=λσ H Q=>ta σ H λx H1=>r x H1 Q
def rI(C:Int->Int->Prop)(g:Int->Int->V):R2:=λx y H Q=>∃i j,x= .int i/\ y= .int j/\ C i j/\ Q (g i j) H
def jb(g:Int->Int->V):R2:=λx y H Q=>∃i j,x= .int i/\ y= .int j/\ Q (g i j) H
def rU(g:Int->V):V->Hp->VK->Prop:=λx H Q=>∃i,x= .int i/\ Q (g i) H
section
variable{X:Cx}{a b c:Expr}{ta tb tc:TE}{pos:Pos}
theorem CT(ha:PE X a ta)(hb:PE X b tb){pins:List (Addr×Obj)}{s:Shared}{σ:St}{H:Hp}{R:V->V->Hp->Prop}(I:Inv X pins σ H s)
  (h:ta σ H λx H1=>tb σ H1 λy H2=>R x y H2) {Q:Value->Shared->Prop} {f:Value->Value->Sem Value}
  (hf:∀v u s2 x y H2,Inv X pins σ H2 s2->RelV x v->RelV y u->R x y H2->wpAny (model X.prog X.w) X.A (f v u) Q X.xe s2):
  wpAny (model X.prog X.w) X.A (eval a X.env) (λv s₁=>wpAny (model X.prog X.w) X.A (eval b X.env) (λu s₂=>wpAny (model X.prog X.w) X.A (f v u) Q X.xe s₂) X.xe s₁) X.xe s:=by
 refine aV (ha pins s σ H _ I h) λv s1 ⟨x,H1,I1,r1,q1⟩=>?_;refine aV (hb pins s1 σ H1 _ I1 q1) λu s2 ⟨y,H2,I2,r2,q2⟩=>?_;exact hf v u s2 x y H2 I2 r1 r2 q2
theorem b_{op:Operator}{r:R2}(ho:dN X (binaryOp op) r)(ha:PE X a ta)(hb:PE X b tb):PE X (.BinOp a op b pos) (cw r ta tb):=by intro pins s σ H Q I h;exact wpAny_BinOp (CT ha hb I h λv u s2 x y H2 I2 rx ry q=>ho pins s2 σ H2 x y v u Q I2 rx ry q)
theorem il{op:UnaryOp}{r:V->Hp->VK->Prop}(ho:CS X (unaryOp op) r)(ha:PE X a ta):PE X (.UnaryOp op a pos) (ze r ta):=by intro pins s σ H Q I h;exact UnaryOp_ (aV (ha pins s σ H _ I h) λv s1 ⟨x,H1,I1,r1,q1⟩=>ho pins s1 σ H1 x v Q I1 r1 q1)
theorem CU{f:Value->Value->Sem Value}{C:Int->Int->Prop}{g:Int->Int->Int}
  (rule:∀(i j:Int) (t u:Tok) (s:Shared) (Q:Value->Shared->Prop) (E:Value->Shared->Prop),C i j->Q (.int (g i j) s.toks) {s with toks:=s.toks+1}->wpAny (model X.prog X.w) X.A (f (.int i t) (.int j u)) Q E s):
  dN X f (rI C λi j=> .int (g i j)):=by
 intro pins s σ H x y v u Q I rx ry h;obtain⟨i,j,rfl,rfl,hc,q⟩:=h;obtain⟨t,rfl⟩:=rx;obtain⟨t',rfl⟩:=ry;exact rule i j t t' s _ _ hc ⟨.int (g i j),H,I.tok _,⟨_,U⟩,q⟩
theorem zf{f:Value->Value->Sem Value}{g:Int->Int->Int}
  (rule:∀(i j:Int) (t u:Tok) (s:Shared) (Q:Value->Shared->Prop) (E:Value->Shared->Prop),Q (.int (g i j) s.toks) {s with toks:=s.toks+1}->wpAny (model X.prog X.w) X.A (f (.int i t) (.int j u)) Q E s):
  dN X f (jb λi j=> .int (g i j)):=by
 intro pins s σ H x y v u Q I rx ry h;obtain⟨i,j,rfl,rfl,q⟩:=h;obtain⟨t,rfl⟩:=rx;obtain⟨t',rfl⟩:=ry;exact rule i j t t' s _ _ ⟨.int (g i j),H,I.tok _,⟨_,U⟩,q⟩
theorem zg{f:Value->Value->Sem Value}{g:Int->Int->Bool}
  (rule:∀(i j:Int) (t u:Tok) (s:Shared) (Q:Value->Shared->Prop) (E:Value->Shared->Prop),Q (.bool (g i j)) s->wpAny (model X.prog X.w) X.A (f (.int i t) (.int j u)) Q E s):
  dN X f (jb λi j=> .bl (g i j)):=by
 intro pins s σ H x y v u Q I rx ry h;obtain⟨i,j,rfl,rfl,q⟩:=h;obtain⟨t,rfl⟩:=rx;obtain⟨t',rfl⟩:=ry;exact rule i j t t' s _ _ ⟨.bl (g i j),H,I,U,q⟩
def SI(i j:Int):Prop:=0<j/\ j<1073741824
def zh(i j:Int):Prop:=(-(2^64)<i/\ i<2^64)\/(-(2^64)<j/\ j<2^64)
theorem zh.ok{i j:Int}(h:zh i j):IntMulOk i j:=by
 rcases h with⟨h1,h2⟩|⟨h1,h2⟩
 ·exact .of_left (intBits_le_64 h1 h2)
 ·exact .of_right (intBits_le_64 h1 h2)
theorem jd:dN X (binaryOp .Add) (jb λi j=> .int (i+j)):=zf λ_ _ _ _ _ _ _ q=>add_int q
theorem rH:dN X (binaryOp .Sub) (jb λi j=> .int (i-j)):=zf λ_ _ _ _ _ _ _ q=>sub_int q
theorem zi:dN X (binaryOp .Mult) (rI zh λi j=> .int (i*j)):=CU λ_ _ _ _ _ _ _ hc q=>mul_int q hc.ok
theorem J6:dN X (binaryOp .FloorDiv) (rI SI λi j=> .int (i/j)):=CU λi j _ _ _ _ _ hc q=>by have h1:(0:Int)<j:=hc.1;have h2:j<1073741824:=hc.2;exact floordiv_int (by omega) (by rw[Int.fdiv_eq_ediv_of_nonneg i (by omega)];exact q) (.inl (PyProof.noPylong_small (by omega)))
theorem SJ:dN X (binaryOp .Mod) (rI (λ_ j=>0<j) λi j=> .int (i%j)):=CU λi j _ _ _ _ _ hc q=>by have h1:(0:Int)<j:=hc;exact mod_int' (by omega) (by rw[Int.fmod_eq_emod_of_nonneg i (by omega)];exact q)
theorem zj:dN X (inplaceOp .Add) (jb λi j=> .int (i+j)):=zf λ_ _ _ _ _ _ _ q=>iadd_int q
theorem SK:dN X (inplaceOp .Sub) (jb λi j=> .int (i-j)):=zf λ_ _ _ _ _ _ _ q=>isub_int q
theorem SM{f:Value->Sem Value}{g:Int->Int}
  (rule:∀(i:Int) (t:Tok) (s:Shared) (Q:Value->Shared->Prop) (E:Value->Shared->Prop),Q (.int (g i) s.toks) {s with toks:=s.toks+1}->wpAny (model X.prog X.w) X.A (f (.int i t)) Q E s):
  CS X f (rU λi=> .int (g i)):=by
 intro pins s σ H x v Q I rx h;obtain⟨i,rfl,q⟩:=h;obtain⟨t,rfl⟩:=rx;exact rule i t s _ _ ⟨.int (g i),H,I.tok _,⟨_,U⟩,q⟩
theorem ip:CS X (unaryOp .USub) (rU λi=> .int (-i)):=SM λ_ _ _ _ _ q=>neg_int q
end
def CV:V->V->Bool
 | .aO, .aO=>true| .aO, .int _=>true| .int _, .aO=>true| .aO, .bl _=>true| .bl _, .aO=>true| .aO, .str _=>true| .str _, .aO=>true
 | .int _, .int _=>true| .bl _, .bl _=>true| .str _, .str _=>true| .iN _, .iN _=>true
 | .int _, .str _=>true| .str _, .int _=>true| .bl _, .str _=>true| .str _, .bl _=>true
 |_,_=>false
def l9:R2:=λx y H Q=>CV x y=true/\ Q (.bl (decide (x=y))) H
def SN:R2:=λx y H Q=>CV x y=true/\ Q (.bl (!decide (x=y))) H
theorem J7{i j:Int}:decide (V.int i=V.int j)=(i==j):=by rw[iG];simp
theorem J8{i j:Bool}:decide (V.bl i=V.bl j)=(i==j):=by rw[iG];simp
theorem J9{i j:Str}:decide (V.str i=V.str j)=(i==j):=by rw[iG];simp
theorem J_{i j:Array UInt8}:decide (V.iN i=V.iN j)=(i.toList==j.toList):=by rw[iG];cases i;cases j;simp
section
variable{X:Cx}{a b c:Expr}{ta tb tc:TE}{pos:Pos}
theorem dW{pins:List (Addr×Obj)}{σ:St}{H:Hp}{s:Shared}{Q:VK}{k k':Bool}(I:Inv X pins σ H s)(q:Q (.bl k) H)(e:k=k'):EP X pins σ Q (.bool k') s:=by subst e;exact⟨.bl k,H,I,U,q⟩
theorem cj:dN X (compareOp .Eq) l9:=by
 intro pins s σ H x y v u Q I rx ry h;obtain⟨hs,q⟩:=h;cases x with
 |aO=>
  cases rx;cases y with
  |aO=>cases ry;exact PySem.EqNone.eq_none_none (dW I q (by simp))
  |bl j=>cases ry;exact PySem.EqNone.eq_none_bool (dW I q (by simp))
  |int j=>obtain⟨t',rfl⟩:=ry;exact PySem.EqNone.eq_none_int (dW I q (by simp))
  |str j=>obtain⟨t',rfl⟩:=ry;exact PySem.EqNone.eq_none_str (dW I q (by simp))
  |_=>exact absurd (show false=true from hs) fL
 |bl i=>
  cases rx;cases y with
  |aO=>cases ry;exact PySem.EqNone.eq_bool_none (dW I q (by simp))
  |bl j=>cases ry;exact eq_bool (dW I q J8)
  |str j=>obtain⟨t',rfl⟩:=ry;exact PySem.EqMixed.eq_bool_str (dW I q (by simp))
  |_=>exact absurd (show false=true from hs) fL
 |int i=>
  obtain⟨t,rfl⟩:=rx;cases y with
  |aO=>cases ry;exact PySem.EqNone.eq_int_none (dW I q (by simp))
  |int j=>obtain⟨t',rfl⟩:=ry;exact eq_int (dW I q J7)
  |str j=>obtain⟨t',rfl⟩:=ry;exact PySem.EqMixed.eq_int_str (dW I q (by simp))
  |_=>exact absurd (show false=true from hs) fL
 |str i=>
  obtain⟨t,rfl⟩:=rx;cases y with
  |aO=>cases ry;exact PySem.EqNone.eq_str_none (dW I q (by simp))
  |bl j=>cases ry;exact PySem.EqMixed.eq_str_bool (dW I q (by simp))
  |int j=>obtain⟨t',rfl⟩:=ry;exact PySem.EqMixed.eq_str_int (dW I q (by simp))
  |str j=>obtain⟨t',rfl⟩:=ry;exact eq_str (dW I q J9)
  |_=>exact absurd (show false=true from hs) fL
 |iN i=>
  obtain⟨t,rfl⟩:=rx;cases y with
  |iN j=>obtain⟨t',rfl⟩:=ry;exact PySem.W.eq_bytes (dW I q J_)
  |_=>exact absurd (show false=true from hs) fL
 |_=>cases y<;>exact absurd (show false=true from hs) fL
theorem t5:dN X (compareOp .NotEq) SN:=by
 intro pins s σ H x y v u Q I rx ry h;obtain⟨hs,q⟩:=h;cases x with
 |aO=>
  cases rx;cases y with
  |aO=>cases ry;exact PySem.EqNone.ne_none_none (dW I q (by simp))
  |bl j=>cases ry;exact PySem.EqNone.ne_none_bool (dW I q (by simp))
  |int j=>obtain⟨t',rfl⟩:=ry;exact PySem.EqNone.ne_none_int (dW I q (by simp))
  |str j=>obtain⟨t',rfl⟩:=ry;exact PySem.EqNone.ne_none_str (dW I q (by simp))
  |_=>exact absurd (show false=true from hs) fL
 |bl i=>
  cases rx;cases y with
  |aO=>cases ry;exact PySem.EqNone.ne_bool_none (dW I q (by simp))
  |bl j=>cases ry;exact ne_bool (dW I q (congrArg not J8))
  |str j=>obtain⟨t',rfl⟩:=ry;exact PySem.EqMixed.ne_bool_str (dW I q (by simp))
  |_=>exact absurd (show false=true from hs) fL
 |int i=>
  obtain⟨t,rfl⟩:=rx;cases y with
  |aO=>cases ry;exact PySem.EqNone.ne_int_none (dW I q (by simp))
  |int j=>obtain⟨t',rfl⟩:=ry;exact ne_int (dW I q (congrArg not J7))
  |str j=>obtain⟨t',rfl⟩:=ry;exact PySem.EqMixed.ne_int_str (dW I q (by simp))
  |_=>exact absurd (show false=true from hs) fL
 |str i=>
  obtain⟨t,rfl⟩:=rx;cases y with
  |aO=>cases ry;exact PySem.EqNone.ne_str_none (dW I q (by simp))
  |bl j=>cases ry;exact PySem.EqMixed.ne_str_bool (dW I q (by simp))
  |int j=>obtain⟨t',rfl⟩:=ry;exact PySem.EqMixed.ne_str_int (dW I q (by simp))
  |str j=>obtain⟨t',rfl⟩:=ry;exact ne_str (dW I q (congrArg not J9))
  |_=>exact absurd (show false=true from hs) fL
 |iN i=>
  obtain⟨t,rfl⟩:=rx;cases y with
  |iN j=>obtain⟨t',rfl⟩:=ry;exact PySem.W.ne_bytes (dW I q (congrArg not J_))
  |_=>exact absurd (show false=true from hs) fL
 |_=>cases y<;>exact absurd (show false=true from hs) fL
theorem iq:dN X (compareOp .Lt) (jb λi j=> .bl (decide (i<j))):=zg λ_ _ _ _ _ _ _ q=>lt_int q
theorem j6:dN X (compareOp .LtE) (jb λi j=> .bl (decide (i<=j))):=zg λ_ _ _ _ _ _ _ q=>le_int q
theorem rJ:dN X (compareOp .Gt) (jb λi j=> .bl (decide (j<i))):=zg λ_ _ _ _ _ _ _ q=>gt_int q
theorem SO:dN X (compareOp .GtE) (jb λi j=> .bl (decide (j<=i))):=zg λ_ _ _ _ _ _ _ q=>ge_int q
theorem rK:dN X (compareOp .Is) (λx y H Q=>y= .aO/\ Q (.bl (decide (x= .aO))) H):=by
 intro pins s σ H x y v u Q I rx ry h;obtain⟨rfl,q⟩:=h;cases ry;refine is_none_gen (dW I q ?_);cases x<;>first
  |(cases rx;rfl)
  |(obtain⟨t,rfl⟩:=rx;rfl)
theorem J'(b:Expr){op:CmpOp}(h:op≠ .In:=by decide)(h2:op≠ .NotIn:=by decide):behindInMarks op b=false:=by
 have e1:(op==CmpOp.In)=false:=by cases op<;>first|rfl|exact absurd U h
 have e2:(op==CmpOp.NotIn)=false:=by cases op<;>first|rfl|exact absurd U h2
 cases b<;>simp[behindInMarks,e1,e2]
theorem SQ{op:CmpOp}{r:R2}(ho:dN X (compareOp op) r)(ha:PE X a ta)(hb:PE X b tb)(hm:behindInMarks op b=false):PE X (.Compare a [op] [b] pos) (cw r ta tb):=by intro pins s σ H Q I h;exact wpAny_Compare1 (CT ha hb I h λv u s2 x y H2 I2 rx ry q=>ho pins s2 σ H2 x y v u Q I2 rx ry q) hm
def l_(t:TE):TT:=λσ H Q=>t σ H λx H'=>∃k,x= .bl k/\ Q k H'
theorem SR{op:CmpOp}{r:R2}(ho:dN X (compareOp op) r)(ha:PE X a ta)(hb:PE X b tb)(hm:behindInMarks op b=false):PT X (.Compare a [op] [b] pos) (l_ (cw r ta tb)):=by
 intro pins s σ H Q I h;refine wpAny_isTrue_Compare1 (aV (ha pins s σ H _ I h) λv s1 ⟨x,H1,I1,r1,q1⟩=>aV (hb pins s1 σ H1 _ I1 q1) λu s2 ⟨y,H2,I2,r2,q2⟩=>aV (ho pins s2 σ H2 x y v u _ I2 r1 r2 q2) λc s3 ⟨z,H3,I3,r3,k,e,q3⟩=>?_) hm
 subst e;cases r3;exact wpAny_truthy_bool ⟨H3,I3,q3⟩
def Ka(r r':R2)(ta tb tc:TE):TE:=λσ H Q=>ta σ H λx H1=>tb σ H1 λy H2=>r x y H2 λz H3=>∃k,z= .bl k/\
 (if k=true then tc σ H3 λw' H4=>r' y w' H4 Q else Q (.bl false) H3)
theorem zk{op rL:CmpOp}{r r':R2}(ho:dN X (compareOp op) r)(jA:dN X (compareOp rL) r')(ha:PE X a ta)(hb:PE X b tb)(hc:PE X c tc)
  (hm:lastMarks [op,rL] [b,c]=false:=by with_unfolding_all rfl):PE X (.Compare a [op,rL] [b,c] pos) (Ka r r' ta tb tc):=by
 intro pins s σ H Q I h;refine Compare_chain (aV (ha pins s σ H _ I h) λv s1 ⟨x,H1,I1,r1,q1⟩=>chain_link (aV (hb pins s1 σ H1 _ I1 q1) λu s2 ⟨y,H2,I2,r2,q2⟩=>aV (ho pins s2 σ H2 x y v u _ I2 r1 r2 q2) λd s3 ⟨z,H3,I3,r3,k,e,q3⟩=>?_)) hm
 subst e;cases r3;refine wpAny_truthy_bool ?_;cases k with
 |false=>exact ite_ff ⟨.bl false,H3,I3,U,q3⟩
 |true=>exact ite_tt (chain_last (aV (hc pins s3 σ H3 _ I3 q3) λw' s4 ⟨z',H4,I4,r4,q4⟩=>jA pins s4 σ H4 y z' u w' Q I4 r2 r4 q4))
theorem SS{op rL:CmpOp}{r r':R2}(ho:dN X (compareOp op) r)(jA:dN X (compareOp rL) r')(ha:PE X a ta)(hb:PE X b tb)(hc:PE X c tc)
  (hm:lastMarks [op,rL] [b,c]=false:=by with_unfolding_all rfl):PT X (.Compare a [op,rL] [b,c] pos) (l_ (Ka r r' ta tb tc)):=by
 intro pins s σ H Q I h;refine isTrue_chain (aV (ha pins s σ H _ I h) λv s1 ⟨x,H1,I1,r1,q1⟩=>test_link (aV (hb pins s1 σ H1 _ I1 q1) λu s2 ⟨y,H2,I2,r2,q2⟩=>aV (ho pins s2 σ H2 x y v u _ I2 r1 r2 q2) λd s3 ⟨z,H3,I3,r3,k,e,q3⟩=>?_)) hm
 subst e;cases r3;refine wpAny_truthy_bool ?_;cases k with
 |false=>obtain⟨k',e',q'⟩:=q3;cases e';exact ite_ff ⟨H3,I3,q'⟩
 |true=>refine ite_tt (test_last (aV (hc pins s3 σ H3 _ I3 q3) λw' s4 ⟨z',H4,I4,r4,q4⟩=>aV (jA pins s4 σ H4 y z' u w' _ I4 r2 r4 q4) λd' s5 ⟨z2,H5,I5,r5,k2,e2,q5⟩=>?_));subst e2;cases r5;exact wpAny_truthy_bool ⟨H5,I5,q5⟩
theorem zl:(sizeLine:Nat)<2^63:=by rw[sizeLine_eq];decide
theorem vals1{x:V}{us:List Value}(r:Vals [x] us):∃u,us=[u]/\ RelV x u:=by
 cases r with
 |cons r1 r2=>cases r2;exact⟨_,U,r1⟩
theorem vals2{x y:V}{us:List Value}(r:Vals [x,y] us):∃u w',us=[u,w']/\ RelV x u/\ RelV y w':=by
 cases r with
 |cons r1 r2=>
  cases r2 with
  |cons r3 r4=>cases r4;exact⟨_,_,U,r1,r3⟩
theorem SU(hc:X.calm=true):jD X (.builtin "max") (λxs H Q=>∃i j,xs=[.int i, .int j]/\ Q (.int (if j>i then j else i)) H):=by
 intro pins s σ H xs us Q I r h;obtain⟨i,j,rfl,q⟩:=h;obtain⟨u,w',rfl,⟨t,rfl⟩,⟨t',rfl⟩⟩:=vals2 r;refine max_two_ints (I.ok.hd hc) λh' tk k=>⟨_,H,I.kept k,?_,q⟩
 by_cases hj:j>i
 ·rw[if_pos hj,if_pos hj];exact⟨_,U⟩
 ·rw[if_neg hj,if_neg hj];exact⟨_,U⟩
theorem Kb:jD X (.type "str") (λxs H Q=>∃i,xs=[.int i]/\ i.natAbs.log2<1920/\ Q (.str (toString i)) H):=by intro pins s σ H xs us Q I r h;obtain⟨i,rfl,hz,q⟩:=h;obtain⟨u,rfl,t,rfl⟩:=vals1 r;exact PySem.P.str_of_int hz ⟨.str _,H,I.tok _,⟨_,U⟩,q⟩
theorem SV:jD X (.builtin "ord") (λxs H Q=>∃x,xs=[.str x]/\ x.length=1/\ Q (.int (x.cps.getD 0 0:Nat)) H):=by intro pins s σ H xs us Q I r h;obtain⟨x,rfl,hz,q⟩:=h;obtain⟨u,rfl,t,rfl⟩:=vals1 r;exact ord_of_one hz ⟨.int _,H,I.tok _,⟨_,U⟩,q⟩
end
end L2
namespace L2
open PySem PySem.Spec PyProof.Rows
structure rM(h:Heap)(x dx C:Addr)(mA:Str->Option Value):Prop where
 obj:h.get? x=some (PySem.W.instObj C dx)
 ns:h.Ns1 dx mA
 ne:dx≠x
theorem SW{h:Heap}{dx:Addr}{mA:Str->Option Value}(n:h.Ns1 dx mA):∃od,h.get? dx=some od/\ ∀name,PySem.W.lookIn name od=some (mA name):=by
 obtain⟨o,es,ep,ho,hd,hk,_,hm⟩:=n;refine⟨o,ho,λname=>?_⟩;have e:=hm name;unfold nsFind findBy at e;rw[<-Array.find?_toList]at e;unfold PySem.W.lookIn;rw[hd];dsimp only;split
 ·rename_i y q
  rw[q]at e;exact congrArg some e
 ·rename_i q
  rw[q]at e;have a:es.toList.any (·.refKey)=false:=by rw[List.any_eq_false];intro y hy;obtain⟨z,t,SX⟩:=hk y (Array.mem_toList_iff.mp hy);simp[DictEntry.refKey,SX]
  have a':¬es.toList.any (·.refKey)=true:=by rw[a];exact fL
  rw[if_neg a'];exact congrArg some e
theorem rM.look{h:Heap}{x dx C:Addr}{mA:Str->Option Value}(I:rM h x dx C mA):∃od,PySem.W.InstAt h x (PySem.W.instObj C dx) C (some od)/\ ∀name,PySem.W.lookIn name od=some (mA name):=
 let⟨od,ho,hl⟩:=SW I.ns
 ⟨od,⟨I.obj,U,U,ho⟩,hl⟩
section
variable{prog:Program}{w:World}{A:Around}{E:Value->Shared->Prop}{s:Shared}{K:PySem.W.Frag}{x dx C f:Addr}{mA:Str->Option Value}{name:Str}{v:Value}
theorem get_map{expr:Bool}{Q:Value->Shared->Prop}(X:K.In s.heap)(I:rM s.heap x dx C mA)(hg:PySem.W.plainGet K C name=true)(hh:PySem.W.hasDictIn K C=true)
  (ha:PySem.W.findIn K (.ref C) name=some none) (hv:mA name=some v) (t6:PySem.W.handedIn v=true) (h:Q v {s with toks:=s.toks+1}):
  wpAny (model prog w) A (getAttr (.ref x) name expr) Q E s:=by
 obtain⟨od,J,hl⟩:=I.look;exact PySem.W.get_value X J (PySem.W.plainGet_of hg).1 (PySem.W.findObj_own hh ha U (by rw[hl,hv])) t6 h
theorem SY{pl:Sem Bool}{Q:Value×List Value->Shared->Prop}(X:K.In s.heap)(I:rM s.heap x dx C mA)(hg:PySem.W.plainGet K C name=true)
  (hf:PySem.W.findIn K (.ref C) name=some (some (.ref f))) (ht:PySem.W.isFn K (.ref f)=true) (hv:mA name=none) (h:Q (.ref f,[.ref x]) s):
  wpAny (model prog w) A (getMethod (.ref x) name pl) Q E s:=by
 obtain⟨od,J,hl⟩:=I.look;exact PySem.W.method_fn X J (PySem.W.plainGet_of hg).1 (PySem.W.plainGet_of hg).2 hf (beq_iff_eq.mp ht) (by show(PySem.W.lookIn name od).map (·.isSome)=some false;rw[hl,hv];rfl) h
theorem S8{ns:List Str}{Q:Unit->Shared->Prop}(X:K.In s.heap)(I:rM s.heap x dx C mA)
  (hs:PySem.W.findIn K (.ref C) "__setattr__"=some (some (.builtin "object.__setattr__"))) (hp:PySem.W.plainOver K C=true) (ht:PySem.W.takerIn K C name=some none) (hh:PySem.W.hasDictIn K C=true)
  (hw:PySem.Within mA ns) (hsz:ns.length<=sizeLine)
  (h:∀h',rM h' x dx C (λy=>if y=name then some v else mA y)->Heap.SameBut dx s.heap h'->Q () {s with heap:=h',toks:=s.toks+2}):
  wpAny (model prog w) A (setAttr (.ref x) name v) Q E s:=by
 obtain⟨od,J,hl⟩:=I.look;refine PySem.W.set_plain X J hs (PySem.W.osa_open (s:={s with toks:=s.toks+1}) (r:=none) X J hp ht λb=>?_);obtain⟨cd,hc,CC⟩:=PySem.W.any_some hh;have hx:s.heap.get? x=some ⟨.ref C,some dx, .plain, #[]⟩:=I.obj;refine wpAny_bind (wpAny_pure (wpAny_bind (wpAny_bind (wpAny_loadPart hx (wpAny_bind (PySem.W.Looks.here (s:={s with toks:=s.toks+1}) (PySem.W.looks_clsIn X hc) ?_))))));rw[CC];refine wpAny_pure (a:=some dx) (wpAny_bind (wpAny_pure (wpAny_bind ?_)));refine wpAny_nsSet1 (s:={s with toks:=s.toks+1}) I.ns λh' zm vU=>?_;obtain⟨oD,esD,epD,hoD,hdD,hcD⟩:=zm.count (PySem.Within.cons name v hw);refine wpAny_bind (wpAny_lookBehind hoD (by rw[hdD];exact pastItsLine_dict (cO hcD (by rw[aX];omega))) ?_);exact wpAny_pure (h _ ⟨(vU.2 _ (Ne.symm I.ne)).trans I.obj,zm,I.ne⟩ vU)
theorem S9{R:Result->Shared->Prop}{vs:List Value}{kw:List (Str×Value)}(X:K.In s.heap)(hm:PySem.W.makesIn K C=true)
  (hi:PySem.W.findIn K (.ref C) "__init__"=some (some (.ref f))) (hf:PySem.W.typeIn K (.ref f)=some (.type "function"))
  (h:codeAny (model prog w) (A.under (.builtin "type.__call__" ⟨.ref C::vs,kw⟩)) (.call (.ref f) ⟨.ref (s.heap.objs.size+1)::vs,kw⟩) (PySem.W.InitBack (s.heap.objs.size+1) R)
   {s with heap:=(s.heap.push PySem.W.emptyDict).push (PySem.W.instObj C s.heap.objs.size)}):
  codeAny (model prog w) A (.call (.ref C) ⟨vs,kw⟩) R s:=by
 obtain⟨hh,g,d,t,os⟩:=s;exact PySem.W.make_core (PySem.W.makes_of X hm) (PySem.W.looks_findIn X hi) (λself=>PySem.W.bind_fn X self hf) (.inl U) h
end
def bA(f:Str)(v:V):List (Str×V)->List (Str×V)
 |[]=>[(f,v)]
 |(g,x)::r=>if g=f then(g,v)::r else(g,x)::bA f v r
theorem Kc(f g:Str)(v:V):∀fs:List (Str×V),(bA f v fs).lookup g=if g=f then some v else fs.lookup g
 |[]=>by
  show List.lookup g [(f,v)]=_;by_cases h:g=f
  ·have hb:(g==f)=true:=beq_iff_eq.mpr h
   simp only[List.lookup,hb,if_pos h]
  ·have hb:(g==f)=false:=beq_eq_false_iff_ne.mpr h
   simp only[List.lookup,hb,if_neg h]
 |(k,x)::r=>by
  have ih:=Kc f g v r;rw[show bA f v ((k,x)::r)=(if k=f then(k,v)::r else(k,x)::bA f v r)from rfl];by_cases hk:k=f
  ·rw[if_pos hk]
   by_cases h:g=k
   ·have hb:(g==k)=true:=beq_iff_eq.mpr h
    simp only[List.lookup,hb,if_pos (h.trans hk)]
   ·have hb:(g==k)=false:=beq_eq_false_iff_ne.mpr h
    simp only[List.lookup,hb,if_neg (λe:g=f=>h (e.trans hk.symm))]
  ·rw[if_neg hk]
   by_cases h:g=k
   ·have hb:(g==k)=true:=beq_iff_eq.mpr h
    simp only[List.lookup,hb,if_neg (λe:g=f=>hk (h.symm.trans e))]
   ·have hb:(g==k)=false:=beq_eq_false_iff_ne.mpr h
    simp only[List.lookup,hb];exact ih
theorem CW(f:Str)(v:V):∀fs:List (Str×V),f∈(bA f v fs).map (·.1)/\ ∀g,g∈fs.map (·.1)->g∈(bA f v fs).map (·.1)
 |[]=>⟨by simp[bA],λg h=>by simp at h⟩
 |(k,x)::r=>by
  obtain⟨i1,i2⟩:=CW f v r;rw[show bA f v ((k,x)::r)=(if k=f then(k,v)::r else(k,x)::bA f v r)from rfl];by_cases hk:k=f
  ·rw[if_pos hk]
   subst hk;exact⟨by simp,λg h=>by simpa using h⟩
  ·rw[if_neg hk]
   refine⟨?_,λg h=>?_⟩
   ·rw[da]
    exact fe _ i1
   ·rw[da]at h⊢
    rcases a_.mp h with e|e
    ·exact a_.mpr (.inl e)
    ·exact fe _ (i2 g e)
theorem Kd(f:Str)(v:V):∀fs:List (Str×V),(bA f v fs).length<=fs.length+1
 |[]=>by simp[bA]
 |(k,x)::r=>by
  have ih:=Kd f v r;rw[show bA f v ((k,x)::r)=(if k=f then(k,v)::r else(k,x)::bA f v r)from rfl];by_cases hk:k=f
  ·rw[if_pos hk,aX,aX];omega
  ·rw[if_neg hk,aX,aX];omega
theorem iO.some_of{v:V}{o:Option Value}(r:iO (some v) o):∃u,o=some u/\ RelV v u:=by
 cases o with
 |none=>exact(show False from r).elim
 |some u=>exact⟨u,U,r⟩
theorem iO.none_of{o:Option Value}(r:iO none o):o=none:=by
 cases o with
 |none=>rfl
 |some u=>exact(show False from r).elim
theorem S_{v:V}{u:Value}(r:RelV v u):PySem.W.handedIn u=true:=by
 cases v with
 |aO=>cases (show u=Value.none from r);rfl
 |bl b=>cases (show u=Value.bool b from r);rfl
 |int i=>obtain⟨t,e⟩:=(show∃t,u=Value.int i t from r);cases e;rfl
 |str x=>obtain⟨t,e⟩:=(show∃t,u=Value.str x t from r);cases e;rfl
 |iN b=>obtain⟨t,e⟩:=(show∃t,u=Value.bytes b t from r);cases e;rfl
 |flt b=>obtain⟨t,e⟩:=(show∃t,u=Value.float b t from r);cases e;rfl
 |ref a=>cases (show u=Value.ref a from r);rfl
 |ty n=>cases (show u=Value.type n from r);rfl
section
variable{P:Program}{w:World}{H H':Hp}{h h':Heap}{a C dx:Addr}{fs lW:List (Str×V)}
theorem CY(aK:du P w H h)(e:H a=some (.ins C dx fs)):∃mA,rM h a dx C mA/\ (∀f,iO (fs.lookup f) (mA f))/\ PySem.Within mA (fs.map (·.1))/\ fs.length<=1000/\ H dx=some (.own a):=by
 obtain⟨d,z,ne,ob,mA,n,r,q⟩:=(show dU P w H h a (.ins C dx fs)from aK a _ e)
 exact⟨mA,⟨ob,n,ne⟩,r,q,z,d⟩
end
structure gf(K:PySem.W.Frag)(C:Addr):Prop where
 pg:PySem.W.plainGet K C Str.empty=true
 hd:PySem.W.hasDictIn K C=true
 po:PySem.W.plainOver K C=true
 sa:PySem.W.findIn K (.ref C) "__setattr__"=some (some (.builtin "object.__setattr__"))
theorem gf.get{K:PySem.W.Frag}{C:Addr}(c:gf K C)(f:Str):PySem.W.plainGet K C f=true:=c.pg
def dv(K:PySem.W.Frag)(C:Addr)(f:Str):Prop:=PySem.W.findIn K (.ref C) f=some none
theorem dv.Ta{K:PySem.W.Frag}{C:Addr}{f:Str}(n:dv K C f):PySem.W.takerIn K C f=some none:=by unfold PySem.W.takerIn;rw[show PySem.W.findIn K (.ref C) f=some none from n];rfl
structure Meth(K:PySem.W.Frag)(C:Addr)(m:Str)(f:Addr):Prop where
 at_:PySem.W.findIn K (.ref C) m=some (some (.ref f))
 fn:PySem.W.isFn K (.ref f)=true
 kp:PySem.W.keepIn K (.ref f)=true
section
variable{X:Cx}{pins:List (Addr×Obj)}{σ:St}{H:Hp}{s:Shared}{a C dx:Addr}{fs:List (Str×V)}{f:Str}{v:V}{A:Around}{E:Value->Shared->Prop}
theorem Ke{b:Bool}{Q:Value->Shared->Prop}(I:Inv X pins σ H s)(e:H a=some (.ins C dx fs))(c:gf X.K C)(n:dv X.K C f)(l:fs.lookup f=some v)
  (h:∀u s',Inv X pins σ H s'->RelV v u->Q u s'):wpAny (model X.prog X.w) A (getAttr (.ref a) f b) Q E s:=by
 obtain⟨mA,O,r,_,_,_⟩:=CY I.aK e;obtain⟨u,hu,ru⟩:=iO.some_of (v:=v) (o:=mA f) (by rw[<-l];exact r f);exact get_map I.i8 O (c.get f) c.hd n hu (S_ ru) (h u _ (I.tok _) ru)
theorem Kf{m:Str}{g:Addr}{pl:Sem Bool}{Q:Value×List Value->Shared->Prop}(I:Inv X pins σ H s)(e:H a=some (.ins C dx fs))(c:gf X.K C)(k:Meth X.K C m g)(l:fs.lookup m=none)
  (h:Q (.ref g,[.ref a]) s):wpAny (model X.prog X.w) A (getMethod (.ref a) m pl) Q E s:=by
 obtain⟨mA,O,r,_,_,_⟩:=CY I.aK e;have hn:mA m=none:=iO.none_of (by rw[<-l];exact r m);exact SY I.i8 O (c.get m) k.at_ k.fn hn h
theorem Kg{y:V}{u:Value}{Q:Unit->Shared->Prop}(I:Inv X pins σ H s)(e:H a=some (.ins C dx fs))(c:gf X.K C)(n:dv X.K C f)(hl:fs.length<1000)(ry:RelV y u)
  (h:∀s',Inv X pins σ (upd H a (.ins C dx (bA f y fs))) s'->Q () s'):wpAny (model X.prog X.w) A (setAttr (.ref a) f u) Q E s:=by
 obtain⟨mA,O,r,wi,_,ho⟩:=CY I.aK e;have hz:(fs.map (·.1)).length<=sizeLine:=by rw[aI,sizeLine_eq];omega
 refine S8 I.i8 O c.sa c.po n.Ta c.hd wi hz λh' O' sb=>h _ ?_;have hd:∃o,h'.get? dx=some o:=let⟨o,_,_,e',_⟩:=O'.ns;⟨o,e'⟩;refine I.write (x:=a) (e:=dx) (by rw[e];exact True.intro) (.inr ho) (λb q hb z=>(sb.2 b hb).trans z) hd ?_;refine⟨by rw[aD O.ne];exact ho,?_,O.ne,O'.obj,_,O'.ns,λg=>?_,λg hg=>?_⟩
 ·have:=Kd f y fs;omega
 ·show iO ((bA f y fs).lookup g) (if g=f then some u else mA g)
  rw[Kc];by_cases q:g=f
  ·rw[if_pos q,if_pos q];exact ry
  ·rw[if_neg q,if_neg q];exact r g
 ·by_cases q:g=f
  ·rw[q];exact(CW f y fs).1
  ·refine(CW f y fs).2 g (wi g λz=>hg ?_)
   show(if g=f then some u else mA g)=none;rw[if_neg q];exact z
theorem Inv.made(I:Inv X pins σ H s):Inv X pins σ (upd (upd H s.heap.objs.size (.own (s.heap.objs.size+1))) (s.heap.objs.size+1) (.ins C s.heap.objs.size []))
  {s with heap:=(s.heap.push PySem.W.emptyDict).push (PySem.W.instObj C s.heap.objs.size)}:=by
 have e1:(s.heap.push PySem.W.emptyDict).get? s.heap.objs.size=some PySem.W.emptyDict:=Heap.get?_push_size s.heap U;have e2:((s.heap.push PySem.W.emptyDict).push (PySem.W.instObj C s.heap.objs.size)).get? (s.heap.objs.size+1)=some (PySem.W.instObj C s.heap.objs.size):=by have:=Heap.get?_push_size (s.heap.push PySem.W.emptyDict) (o:=PySem.W.instObj C s.heap.objs.size) U;rwa[Heap.size_push]at this
 have e3:(s.heap.push PySem.W.emptyDict).Ns s.heap.objs.size (λ_=>none):=⟨PySem.W.emptyDict, #[],_,e1,U,(λe he=>absurd he (by simp)),λ_=>rfl⟩
 have I1:=I.laid (a:=s.heap.objs.size) (o:= .own (s.heap.objs.size+1)) (h':=s.heap.push PySem.W.emptyDict) (t':=s.toks) (λb u q=>Heap.get?_push_of_some _ q) (aM _) ⟨_,e1⟩;refine I1.laid (a:=s.heap.objs.size+1) (o:= .ins C s.heap.objs.size []) (t':=s.toks) (λb u q=>Heap.get?_push_of_some _ q) (x_ (Heap.size_push _ _)) ?_;have ne:s.heap.objs.size≠s.heap.objs.size+1:=f6 (Bv _);refine⟨by rw[aD ne,ae],bj _,ne,e2,λ_=>none,(Heap.Ns1.of_empty e3).at λo q=>Heap.get?_push_of_some _ q,λ_=>True.intro,λy hy=>absurd U hy⟩
theorem Tb{prog:Program}{w:World}{env:Env}{e:Expr}{f:Str}{pos:Pos}{s:Shared}{Q:Value->Shared->Prop}(hb:attributeBase e f env (eval e env)=eval e env)
  (h:wpAny (model prog w) A (eval e env) (λo s₁=>wpAny (model prog w) A (getAttr o f true) Q E s₁) E s):wpAny (model prog w) A (eval (.Attribute e f pos) env) Q E s:=
 Attribute_any_ h (by rw[arm_eval_Attribute,hb])
end
def ir(K:PySem.W.Frag)(ta:TE)(f:Str):TE:=λσ H Q=>ta σ H λx H1=>∃a C dx fs v,x= .ref a/\ H1 a=some (.ins C dx fs)/\ gf K C/\ dv K C f/\ fs.lookup f=some v/\ Q v H1
def Kh(K:PySem.W.Frag)(ta tv:TE)(f:Str):TS:=λD σ H=>tv σ H λy H1=>ta σ H1 λx H2=>∃a C dx fs,x= .ref a/\ H2 a=some (.ins C dx fs)/\ gf K C/\ dv K C f/\ fs.length<1000/\
 D.nx σ (upd H2 a (.ins C dx (bA f y fs)))
def Ki(X:Cx)(op:Operator)(rd:V->V->Hp->VK->Prop):Prop:=∀(pins:List (Addr×Obj)) (s:Shared) (σ:St) (H:Hp) (x y:V) (u v:Value) (Q:VK),Inv X pins σ H s->RelV x u->RelV y v->rd x y H Q->wpAny (model X.prog X.w) X.A (inplaceOp op u v) (EP X pins σ Q) X.xe s
def Tc(K:PySem.W.Frag)(ta tv:TE)(rd:V->V->Hp->VK->Prop)(f:Str):TS:=λD σ H=>ta σ H λx H1=>∃a C dx fs v,x= .ref a/\ H1 a=some (.ins C dx fs)/\ gf K C/\ dv K C f/\ fs.lookup f=some v/\
 tv σ H1 λy H2=>rd v y H2 λz H3=>∃rO lW,H3 a=some (.ins C rO lW)/\ lW.length<1000/\ D.nx σ (upd H3 a (.ins C rO (bA f z lW)))
section
variable{X:Cx}{o e value:Expr}{f:Str}{pos pos' tpos:Pos}{ta tv:TE}
theorem Kj(he:PE X e ta)(hb:attributeBase e f X.env (eval e X.env)=eval e X.env):PE X (.Attribute e f pos) (ir X.K ta f):=by intro pins s σ H Q I h;refine Tb hb (aV (he pins s σ H _ I h) λu s1 ⟨x,H1,I1,rx,a,C,dx,fs,v,ex,ea,c,n,l,q⟩=>?_);subst ex;obtain rfl:u=Value.ref a:=rx;exact Ke I1 ea c n l λu' s2 I2 ru=>⟨v,H1,I2,ru,q⟩
theorem Td(ha:PE X o ta)(hv:PE X value tv)(hs:swapsWith value (some (.Attribute o f pos')) pos.line X.env=pure false):PS X (.Assign [.Attribute o f pos'] value pos) (Kh X.K ta tv f):=by intro pins s σ H D I h;refine plainObj_wpAny_Assign_Attribute (aV (hv pins s σ H _ I h) λu s1 ⟨y,H1,I1,ry,q⟩=>aV (ha pins s1 σ H1 _ I1 q) λov s2 ⟨x,H2,I2,rx,a,C,dx,fs,ex,ea,c,n,l,q2⟩=>?_) hs;subst ex;obtain rfl:ov=Value.ref a:=rx;exact Kg I2 ea c n l ry λs3 I3=>⟨σ,_,I3,q2⟩
theorem CZ{op:Operator}{rd:V->V->Hp->VK->Prop}(ha:PE X o ta)(hv:PE X value tv)(Te:Ki X op rd):PS X (.AugAssign (.Attribute o f tpos) op value pos) (Tc X.K ta tv rd f):=by intro pins s σ H D I h;refine wpAny_AugAssign_AttributeAny (aV (ha pins s σ H _ I h) λov s1 ⟨x,H1,I1,rx,a,C,dx,fs,v,ex,ea,c,n,l,q⟩=>?_);subst ex;obtain rfl:ov=Value.ref a:=rx;refine Ke I1 ea c n l λu s2 I2 ru=>aV (hv pins s2 σ H1 _ I2 q) λw3 s3 ⟨y,H2,I3,ry,q3⟩=>aV (Te pins s3 σ H2 v y u w3 _ I3 ru ry q3) λw4 s4 ⟨z,H3,I4,rz,rO,lW,Tf,l',q4⟩=>?_;exact Kg I4 Tf c n l' rz λs5 I5=>⟨σ,_,I5,q4⟩
def Tg:V->V->Hp->VK->Prop:=λx y H Q=>∃i j,x= .int i/\ y= .int j/\ Q (.int (i+j)) H
theorem C0:Ki X .Add Tg:=by
 rintro pins s σ H x y u v Q I rx ry ⟨i,j,rfl,rfl,q⟩;obtain⟨t,rfl⟩:=(show∃t,u=Value.int i t from rx)
 obtain⟨t',rfl⟩:=(show∃t',v=Value.int j t' from ry)
 exact PyProof.Rows.iadd_int ⟨.int (i+j),H,I.tok _,⟨_,U⟩,q⟩
end
section
variable{X:Cx}{pins:List (Addr×Obj)}{σ:St}{H:Hp}{s:Shared}{A:Around}{E:Value->Shared->Prop}{Q:Value->Shared->Prop}{c:Value}{b:Bool}
end
end L2
namespace L2
open PySem PySem.Spec PyProof.Rows
structure di(k:Nat)(A:Around):Prop where
 hd:A.handled=none
 dp:A.depth+3*k+5<recursionLimit
 un:A.units+16*k+200<cLine
theorem di.mono{j k:Nat}{A:Around}(r:di k A)(h:j<=k):di j A:=⟨r.hd,by have:=r.dp;omega,by have:=r.un;omega⟩
theorem di.deeper{k:Nat}{A:Around}(r:di (k+1) A)(env:Env):di k (A.deeper env):=⟨r.hd,by have:=r.dp;show A.depth+1+3*k+5<_;omega,by have:=r.un;show A.units+3+16*k+200<_;omega⟩
theorem Th{A:Around}{C:Addr}{us:List Value}{kw:List (Str×Value)}:(A.under (.builtin "type.__call__" ⟨.ref C::us,kw⟩)).depth=A.depth+1:=by
 first|rfl|simp[Around.under,Code.weight,Code.isCreation,Code.isGuard,Code.isCaller,Code.frames,Code.isFrame,guardIds]
theorem Ti{A:Around}{C:Addr}{us:List Value}{kw:List (Str×Value)}:(A.under (.builtin "type.__call__" ⟨.ref C::us,kw⟩)).units=A.units+1:=by
 first|rfl|simp[Around.under,Code.cUnits,Code.frames,Code.isFrame]
theorem di.make{k:Nat}{A:Around}(r:di (k+1) A)(C:Addr)(us:List Value)(kw:List (Str×Value)):di k (A.under (.builtin "type.__call__" ⟨.ref C::us,kw⟩)):=⟨r.hd,by have:=r.dp;rw[Th];omega,by have:=r.un;rw[Ti];omega⟩
theorem di.depth{k:Nat}{A:Around}(r:di k A):A.depth<recursionLimit:=by have:=r.dp;omega
theorem di.units{k:Nat}{A:Around}(r:di k A):A.units+64<cLine:=by have:=r.un;omega
def eI:TA:=λ_ H Q=>Q [] H
def d_(ta:TE)(tr:TA):TA:=λσ H Q=>ta σ H λx H1=>tr σ H1 λxs H2=>Q (x::xs) H2
section
variable{X:Cx}{e:Expr}{es:List Expr}{te:TE}{t:TA}{pos:Pos}
theorem bY:PA X [] eI:=λ_ _ _ _ H Q I h=>Calls.spliced_nil ⟨[],H,I, .nil,h⟩
theorem fM(ha:PE X e te)(hr:PA X es t)(hs:starEach (e::es) X.env=(false,eval e X.env)::starEach es X.env:=by rfl):PA X (e::es) (d_ te t):=by intro pos pins s σ H Q I h;rw[hs];show wpAny _ _ (spliced ((false,eval e X.env)::backTo pos (starEach es X.env))) _ _ s;refine Calls.spliced_cons (aV (ha pins s σ H _ I h) λu s1 ⟨x,H1,I1,r1,q1⟩=>?_);exact aV (hr pos pins s1 σ H1 _ I1 q1) λus s2 ⟨xs,H2,I2,r2,q2⟩=>⟨x::xs,H2,I2, .cons r1 r2,q2⟩
def Tj(t:TA):TE:=λσ H Q=>t σ H λxs H1=>xs.length<=sizeLine/\ ∀p,H1 p=none->Q (.ref p) (upd H1 p (.tup xs))
def zp(t:TA):TE:=λσ H Q=>t σ H λxs H1=>xs.length<=sizeLine/\ ∀p,H1 p=none->Q (.ref p) (upd H1 p (.lst xs))
theorem gh{x1}(h:PA X es t):PE X (.Tuple es x1 pos) (Tj t):=by intro pins s σ H Q I hq;refine wpAny_Tuple_spliced (aV (h pos pins s σ H _ I hq) λus s1 ⟨xs,H1,I1,r,z,q⟩=>⟨by rw[<-r.length];exact z,?_⟩);have hf:H1 s1.heap.objs.size=none:=I1.aK.fresh (aM _);refine⟨.ref s1.heap.objs.size,upd H1 s1.heap.objs.size (.tup xs),I1.laid (t':=s1.toks) (λb u e=>Heap.get?_push_of_some _ e) (aM _) ?_,U,q _ hf⟩;exact⟨z,us,r,⟨_,Heap.get?_push_size _ U,U,_,U⟩⟩
theorem aS(h:PA X es t):PE X (.List es pos) (zp t):=by intro pins s σ H Q I hq;refine wpAny_List_spliced (aV (h pos pins s σ H _ I hq) λus s1 ⟨xs,H1,I1,r,z,q⟩=>⟨by rw[<-r.length];exact z,?_⟩);have hf:H1 s1.heap.objs.size=none:=I1.aK.fresh (aM _);refine⟨.ref s1.heap.objs.size,upd H1 s1.heap.objs.size (.lst xs),I1.laid (t':=s1.toks) (λb u e=>Heap.get?_push_of_some _ e) (aM _) ?_,U,q _ hf⟩;exact⟨z,us,0,r,Heap.get?_push_size _ U⟩
end
abbrev Sp:=List V->Hp->VK->XK->Prop
abbrev j7:=List Env->Hp->Shared->XK->Value->Shared->Prop
structure ny(P:Program)(w:World)(K:PySem.W.Frag)(mg:Str->Option Value)(base:Heap)(A:Around)(outer:List Env)(s:Shared)(H:Hp):Prop where
 frames:A.frames=some outer
 mod:Mod K mg base
 bs:∀b o,base.get? b=some o->s.heap.get? b=some o/\ H b=none
 lY:base.objs.size<=s.heap.objs.size
 j0:s.heap.FunFrames base outer
 pU:∀b∈lX outer,H b=none
 aK:du P w H s.heap
 bare:AllBare s.gens
def CE(outer:List Env)(P:Program)(w:World)(H:Hp)(s:Shared)(Q:VK)(u:Value)(s':Shared):Prop:=∃v H',s'.os=s.os/\ AllBare s'.gens/\ Un (lX outer) [] H H' s.heap s'.heap/\ du P w H' s'.heap/\ RelV v u/\ Q v H'
def CR(CX:j7)(outer:List Env)(P:Program)(w:World)(H:Hp)(s:Shared)(Q:VK)(E:XK)(r:Result)(s':Shared):Prop:=
 match r with
 | .ok (.ret u)=>CE outer P w H s Q u s'
 | .ok _=>False
 | .error e=>CX outer H s E e s'
structure iu(P:Program)(w:World)(K:PySem.W.Frag)(mg:Str->Option Value)(base:Heap)(CX:j7)(k:Nat)(f:Addr)(fd:FuncData)(ps:List Str)(sp:Sp):Prop where
 len:∀vs H Q E,sp vs H Q E->vs.length=ps.length
 run:∀(A:Around) (outer:List Env) (s:Shared) (H:Hp) (args:Args) (us:List Value) (vs:List V) (Q:VK) (E:XK),di k A->ny P w K mg base A outer s H->BindsTo s fd args (ps.zip us)->Vals vs us->sp vs H Q E->
  codeAny (model P w) A (.call (.ref f) args) (CR CX outer P w H s Q E) s
theorem ny.make{P:Program}{w:World}{K:PySem.W.Frag}{mg:Str->Option Value}{base:Heap}{A:Around}{outer:List Env}{s:Shared}{H:Hp}(e:ny P w K mg base A outer s H)(C:Addr)(us:List Value)(kw:List (Str×Value)):
  ny P w K mg base (A.under (.builtin "type.__call__" ⟨.ref C::us,kw⟩)) outer s H:=⟨by first|exact e.frames|(simpa [Around.under,Code.envs,Code.isFrame,pushEnvs]using e.frames),e.mod,e.bs,e.lY,e.j0,e.pU,e.aK,e.bare⟩
section
variable{X:Cx}{pins:List (Addr×Obj)}{σ:St}{H:Hp}{s s':Shared}
theorem Inv.Kk(I:Inv X pins σ H s):ny X.prog X.w X.K X.mg X.base X.A X.stack s H:=⟨I.ok.frames,I.ok.mod,I.bs,cO I.ok.lY I.sz,I.stack,I.JP,I.aK,I.bare⟩
theorem Inv.after{Q:VK}{u:Value}(I:Inv X pins σ H s)(h:CE X.stack X.prog X.w H s Q u s'):EP X pins σ Q u s':=by obtain⟨v,H',os,bare,un,aK,r,q⟩:=h;obtain⟨hh,g,d,t,Tn⟩:=s';obtain rfl:Tn=s.os:=os;exact⟨v,H',I.call (h':=hh) (g':=g) (d':=d) (t':=t) (ch:=[]) un aK bare (λb z=>absurd z (by simp)),r,q⟩
end
def iR(sp:Sp)(dvs:List V)(E:XK)(t:TA):TE:=λσ H Q=>t σ H λvs H1=>sp (vs++dvs) H1 Q E
def oF(C:Addr)(m:Str)(sp:Sp)(dvs:List V)(E:XK)(ta:TE)(t:TA):TE:=λσ H Q=>ta σ H λx H1=>∃a dx fs,x= .ref a/\ H1 a=some (.ins C dx fs)/\ fs.lookup m=none/\
 t σ H1 λvs H2=>sp (x::(vs++dvs)) H2 Q E
def Kl(C:Addr)(sp:Sp)(dvs:List V)(E:XK)(t:TA):TE:=λσ H Q=>t σ H λvs H1=>∀x dx,H1 x=none->H1 dx=none->dx≠x->
 sp (.ref x::(vs++dvs)) (upd (upd H1 dx (.own x)) x (.ins C dx [])) (λv H2=>v= .aO/\ Q (.ref x) H2) E
def Binds(K:PySem.W.Frag)(fd:FuncData)(ps:List Str)(ds:List Value):Prop:=∀(s:Shared) (us:List Value),K.In s.heap->(us++ds).length=ps.length->BindsTo s fd ⟨us,[]⟩ (ps.zip (us++ds))
theorem Binds.all{K:PySem.W.Frag}{fd:FuncData}{ps:List Str}(h:∀us:List Value,us.length=ps.length->bindArgs fd ⟨us,[]⟩=pure (ps.zip us)):Binds K fd ps []:=λs us _ hl=>by rw[iD]at hl⊢;exact .of_eq (h us hl)
def Passes(CX:j7)(X:Cx)(E:XK):Prop:=∀(pins:List (Addr×Obj)) (σ:St) (H:Hp) (s:Shared) (e:Value) (s':Shared),Inv X pins σ H s->CX X.stack H s E e s'->X.xe e s'
section
variable{X:Cx}{CX:j7}{k:Nat}{f C:Addr}{fd:FuncData}{ps:List Str}{sp:Sp}{dvs:List V}{ds:List Value}{E:XK}{x m:Str}{p pos apos:Pos}{e o:Expr}{es:List Expr}{ta:TE}{t:TA}
theorem C1{pins:List (Addr×Obj)}{σ:St}{H:Hp}{s:Shared}{Q:VK}{us:List Value}{vs:List V}(F:iu X.prog X.w X.K X.mg X.base CX k f fd ps sp)(hr:di k X.A)(hb:Binds X.K fd ps ds)(hd:Vals dvs ds)(hx:Passes CX X E)
  (I:Inv X pins σ H s) (r:Vals vs us) (h:sp (vs++dvs) H Q E):wpAny (model X.prog X.w) X.A (call (.ref f) us) (EP X pins σ Q) X.xe s:=by
 have r2:Vals (vs++dvs) (us++ds):=r.append hd;have hl:(us++ds).length=ps.length:=by rw[<-r2.length];exact F.len _ _ _ _ h
 refine wpAny_call (codeAny_mono (F.run X.A X.stack s H ⟨us,[]⟩ (us++ds) (vs++dvs) Q E hr I.Kk (hb s us I.i8 hl) r2 h) λr s' hq=>?_);cases r with
 |error e=>exact hx pins σ H s e s' I hq
 |ok fl=>
  cases fl with
  |ret u=>exact I.after hq
  |next|brk|cont=>exact False.elim hq
theorem To(F:iu X.prog X.w X.K X.mg X.base CX k f fd ps sp)(hr:di k X.A)(hg:Gl X x)(hm:X.mg x=some (.ref f))(hk:PySem.W.keepIn X.K (.ref f)=true)(hb:Binds X.K fd ps ds)(hd:Vals dvs ds)(hx:Passes CX X E)
  (ha:PA X (e::es) t) (fN:(x==("__debug__":Str))=false:=by decide) (he:starEach (e::es) X.env=(false,eval e X.env)::starEach es X.env:=by rfl) (bK:(backTo pos (starEach es X.env)).any (·.1)=false:=by rfl):
  PE X (.Call (.Name x p) (e::es) [] pos) (iR sp dvs E t):=by
 intro pins s σ H Q I h;refine wpAny_Call_Name_kw (y8 I hg hm ?_ fN);refine PySem.W.callWith_K (h₀:=X.base) I.ok.mod.vI hk (aV (ha pos pins s σ H _ I h) λus s1 ⟨vs,H1,I1,r,q⟩=>⟨I1.i8,?_⟩) he bK;exact C1 F hr hb hd hx I1 r q
theorem Tp{pl:Sem Bool}(he:PE X o ta)(c:gf X.K C)(hm:Meth X.K C m f)(F:iu X.prog X.w X.K X.mg X.base CX k f fd ps sp)(hr:di k X.A)(hb:Binds X.K fd ps ds)(hd:Vals dvs ds)(hx:Passes CX X E)(ha:PA X (e::es) t)
  (cD:starEach (e::es) X.env=(false,eval e X.env)::starEach es X.env:=by rfl) (bK:(backTo pos (starEach es X.env)).any (·.1)=false:=by rfl)
  (ht:eval (.Call (.Attribute o m apos) (e::es) [] pos) X.env=(do
   let ov<-eval o X.env
   standAt apos.atName
   let(f,first)<-holding [ov] (getMethod ov m pl)
   callWith pos f first (backTo pos (starEach (e::es) X.env)) (backToKw pos (keywordEach [] X.env))):=by rfl):
  PE X (.Call (.Attribute o m apos) (e::es) [] pos) (oF C m sp dvs E ta t):=by
 intro pins s σ H Q I h;refine PySem.W.methodCall_KW (pl:=pl) (aV (he pins s σ H _ I h) λu s1 ⟨x,H1,I1,rx,a,dx,fs,ex,ea,l,q⟩=>?_) ht;subst ex;obtain rfl:u=Value.ref a:=rx;refine Kf I1 ea c hm l ?_;refine PySem.W.callWith_K (first:=[.ref a]) (h₀:=X.base) I.ok.mod.vI hm.kp (aV (ha pos pins s1 σ H1 _ I1 q) λus s2 ⟨vs,H2,I2,r,q2⟩=>⟨I2.i8,?_⟩) cD bK;exact C1 (us:= .ref a::us) (vs:= .ref a::vs) F hr hb hd hx I2 (.cons U r) q2
theorem Tq{pl:Sem Bool}(he:PE X o ta)(c:gf X.K C)(hm:Meth X.K C m f)(F:iu X.prog X.w X.K X.mg X.base CX k f fd ps sp)(hr:di k X.A)(hb:Binds X.K fd ps ds)(hd:Vals dvs ds)(hx:Passes CX X E)
  (ht:eval (.Call (.Attribute o m apos) [] [] pos) X.env=(do
   let ov<-eval o X.env
   standAt apos.atName
   let(f,first)<-holding [ov] (getMethod ov m pl)
   callWith pos f first (backTo pos (starEach [] X.env)) (backToKw pos (keywordEach [] X.env))):=by rfl):
  PE X (.Call (.Attribute o m apos) [] [] pos) (oF C m sp dvs E ta eI):=by
 intro pins s σ H Q I h;refine PySem.W.methodCall_KW (pl:=pl) (aV (he pins s σ H _ I h) λu s1 ⟨x,H1,I1,rx,a,dx,fs,ex,ea,l,q⟩=>?_) ht;subst ex;obtain rfl:u=Value.ref a:=rx;refine Kf I1 ea c hm l ?_;exact PySem.W.callWith_K0 (first:=[.ref a]) I1.i8 hm.kp (C1 (us:=[.ref a]) (vs:=[.ref a]) F hr hb hd hx I1 (.cons U .nil) q)
structure Mk(K:PySem.W.Frag)(C f:Addr):Prop where
 makes:PySem.W.makesIn K C=true
 init:PySem.W.findIn K (.ref C) "__init__"=some (some (.ref f))
 fn:PySem.W.isFn K (.ref f)=true
 kp:PySem.W.keepIn K (.ref C)=true
theorem Km{pins:List (Addr×Obj)}{σ:St}{H:Hp}{s:Shared}{Q:VK}{us:List Value}{vs:List V}(M:Mk X.K C f)(F:iu X.prog X.w X.K X.mg X.base CX k f fd ps sp)(hr:di (k+1) X.A)(hb:Binds X.K fd ps ds)(hd:Vals dvs ds)
  (hx:Passes CX X E) (I:Inv X pins σ H s) (r:Vals vs us)
  (h:∀x dx,H x=none->H dx=none->dx≠x->sp (.ref x::(vs++dvs)) (upd (upd H dx (.own x)) x (.ins C dx [])) (λv H2=>v= .aO/\ Q (.ref x) H2) E):
  wpAny (model X.prog X.w) X.A (call (.ref C) us) (EP X pins σ Q) X.xe s:=by
 have hq:=h (s.heap.objs.size+1) s.heap.objs.size (I.aK.fresh (Nat.le_succ _)) (I.aK.fresh (aM _)) (f6 (Bv _));have I2:=Inv.made (C:=C) I;have r2:Vals (V.ref (s.heap.objs.size+1)::(vs++dvs)) (Value.ref (s.heap.objs.size+1)::(us++ds)):= .cons U (r.append hd);have hl:(Value.ref (s.heap.objs.size+1)::us++ds).length=ps.length:=by have e:=r2.length;rw[F.len _ _ _ _ hq]at e;exact e.symm
 refine wpAny_call (S9 (f:=f) I.i8 M.makes M.init (beq_iff_eq.mp M.fn) (codeAny_mono (F.run _ X.stack _ _ ⟨Value.ref (s.heap.objs.size+1)::us,[]⟩ (Value.ref (s.heap.objs.size+1)::(us++ds)) _ _ E (hr.make C us [])
  (I2.Kk.make C us []) (hb _ (Value.ref (s.heap.objs.size+1)::us) I2.i8 hl) r2 hq) λr s' t7=>?_))
 cases r with
 |error e=>exact hx pins σ _ _ e s' I2 t7
 |ok fl=>
  cases fl with
  |ret u=>obtain⟨v,H',I3,rv,ev,q3⟩:=I2.after t7;subst ev;exact⟨rv,⟨V.ref (s.heap.objs.size+1),H',I3,U,q3⟩⟩
  |next|brk|cont=>exact False.elim t7
theorem Tr(M:Mk X.K C f)(F:iu X.prog X.w X.K X.mg X.base CX k f fd ps sp)(hr:di (k+1) X.A)(hg:Gl X x)(hm:X.mg x=some (.ref C))(hb:Binds X.K fd ps ds)(hd:Vals dvs ds)(hx:Passes CX X E)
  (ha:PA X (e::es) t) (fN:(x==("__debug__":Str))=false:=by decide) (he:starEach (e::es) X.env=(false,eval e X.env)::starEach es X.env:=by rfl) (bK:(backTo pos (starEach es X.env)).any (·.1)=false:=by rfl):
  PE X (.Call (.Name x p) (e::es) [] pos) (Kl C sp dvs E t):=by
 intro pins s σ H Q I h;refine wpAny_Call_Name_kw (y8 I hg hm ?_ fN);refine PySem.W.callWith_K (h₀:=X.base) I.ok.mod.vI M.kp (aV (ha pos pins s σ H _ I h) λus s1 ⟨vs,H1,I1,r,q⟩=>⟨I1.i8,?_⟩) he bK;exact Km M F hr hb hd hx I1 r q
theorem Ts(M:Mk X.K C f)(F:iu X.prog X.w X.K X.mg X.base CX k f fd ps sp)(hr:di (k+1) X.A)(hg:Gl X x)(hm:X.mg x=some (.ref C))(hb:Binds X.K fd ps ds)(hd:Vals dvs ds)(hx:Passes CX X E)
  (fN:(x==("__debug__":Str))=false:=by decide):PE X (.Call (.Name x p) [] [] pos) (Kl C sp dvs E eI):=by
 intro pins s σ H Q I h;refine wpAny_Call_Name_kw (y8 I hg hm ?_ fN);exact PySem.W.callWith_K0 I.i8 M.kp (Km (us:=[]) M F hr hb hd hx I .nil h)
end
section
variable{X:Cx}{CX:j7}{k:Nat}{f C:Addr}{fd:FuncData}{ps ks:List Str}{sp:Sp}{E:XK}{x m:Str}{p pos apos kpos:Pos}{e o:Expr}{es:List Expr}{kws:List Keyword}{te ta:TE}{t tk:TA}{nm:Option Str}
variable{g:List Value->List Value->List Value}{gV:List V->List V->List V}
end
structure C2(N P:List Str)(sc:Scope):Prop where
 kind:sc.kind= .function
 co:sc.isCoroutine=false
 gen:sc.isGenerator=false
 nd:N.Nodup
 pre:N.take P.length=P
 par:∀x∈P,sc.names.lookup x=some .local\/sc.names.lookup x=some .cell
 C3:∀y∈sc.names,y.2≠ .free
theorem Ko{kindOf:Str->Option NameKind}{x:Str}:∀{binds:List (Str×Value)} {m:Str->Option Value},(∀v,(x,v)∉binds)->bindL kindOf binds m x=m x
 |[],_,_=>rfl
 |(n,v)::r,m,h=>by
  unfold bindL;rw[Ko λw hw=>h w (fe _ hw)];split
  ·have:x≠n:=by rintro rfl;exact h v gC
   simp[this]
  ·rfl
theorem Kp{kindOf:Str->Option NameKind}{x:Str}:∀{binds:List (Str×Value)} {m:Str->Option Value},(∀v,(x,v)∉binds)->bindC kindOf binds m x=m x
 |[],_,_=>rfl
 |(n,v)::r,m,h=>by
  unfold bindC;rw[Kp λw hw=>h w (fe _ hw)];split
  ·rfl
  ·have:x≠n:=by rintro rfl;exact h v gC
   simp[this]
theorem Kq{kindOf:Str->Option NameKind}{x:Str}{v:Value}:∀{P:List Str} {vs:List Value} {i:Nat} {m:Str->Option Value},P.Nodup->P[i]? =some x->vs[i]? =some v->kindOf x=some .local->
  bindL kindOf (P.zip vs) m x=some v
 |[],_,_,_,_,h,_,_|_::_,[],_,_,_,_,h,_=>by simp at h
 |p::P,w::vs,0,m,nd,h1,h2,hk=>by simp at h1 h2;subst h1;subst h2;show bindL kindOf ((p,w)::P.zip vs) m p=_;unfold bindL;rw[Ko λv hv=>(fq.mp nd).1 (Bw hv).1,if_pos hk];simp
 |p::P,w::vs,i+1,m,nd,h1,h2,hk=>by show bindL kindOf ((p,w)::P.zip vs) m x=_;unfold bindL;exact Kq (i:=i) (fq.mp nd).2 (by simpa using h1) (by simpa using h2) hk
theorem Kr{kindOf:Str->Option NameKind}{x:Str}{v:Value}:∀{P:List Str} {vs:List Value} {i:Nat} {m:Str->Option Value},P.Nodup->P[i]? =some x->vs[i]? =some v->kindOf x≠some .local->
  bindC kindOf (P.zip vs) m x=some v
 |[],_,_,_,_,h,_,_|_::_,[],_,_,_,_,h,_=>by simp at h
 |p::P,w::vs,0,m,nd,h1,h2,hk=>by simp at h1 h2;subst h1;subst h2;show bindC kindOf ((p,w)::P.zip vs) m p=_;unfold bindC;rw[Kp λv hv=>(fq.mp nd).1 (Bw hv).1,if_neg hk];simp
 |p::P,w::vs,i+1,m,nd,h1,h2,hk=>by show bindC kindOf ((p,w)::P.zip vs) m x=_;unfold bindC;exact Kr (i:=i) (fq.mp nd).2 (by simpa using h1) (by simpa using h2) hk
def start(N:List Str)(vs:List V):St:=vs.map some++List.replicate (N.length-vs.length) none
def rP(CX:j7)(P:Program)(w:World)(K:PySem.W.Frag)(mg:Str->Option Value)(base:Heap)(N:List Str)(qual:Str)(scope:Scope)(f:Addr)(cd:Value)(A:Around)(outer:List Env)(s:Shared)(H:Hp)(E:XK):Cx where
 prog:=P
 w:=w
 K:=K
 mg:=mg
 base:=base
 A:=A.deeper (envOfC qual scope s.heap.objs.size f cd)
 N:=N
 gd:=s
 vJ:=H
 env:=envOfC qual scope s.heap.objs.size f cd
 outer:=outer
 stack:=envOfC qual scope s.heap.objs.size f cd::outer
 ex:=[]
 calm:=true
 fn:=λ_=>true
 pn:=[]
 xe:=λe s'=>wpAny (model P w) (A.deeper (envOfC qual scope s.heap.objs.size f cd)) (leaving (envOfC qual scope s.heap.objs.size f cd) e) (λ_ s''=>CX outer H s E e s'') (λe' s''=>CX outer H s E e' s'') s'
theorem Ks{sc:Scope}{n:Nat}{x:Str}(h:sc.names.lookup x=some .cell):∃c,(cellsFrom n sc.names []).lookup x=some c:=by have q:=PySem.W.cellsFrom_some sc.names n [] (.inl h);exact Option.isSome_iff_exists.mp q
theorem Tt{CX:j7}{P:Program}{w:World}{K:PySem.W.Frag}{mg:Str->Option Value}{base:Heap}{N ps:List Str}{qual:Str}{scope:Scope}{f:Addr}{cd:Value}{A:Around}{outer:List Env}{s s1:Shared}{H:Hp}{E:XK}{us:List Value}{vs:List V}
  (S:C2 N ps scope) (hd:A.handled=none) (e0:ny P w K mg base A outer s H) (hl:vs.length=ps.length) (r:Vals vs us)
  (x:InCallC s s.heap.objs.size (bindL (envOfC qual scope s.heap.objs.size f cd).kindOf (ps.zip us) λ_=>none) (cellsFrom (s.heap.objs.size+1) scope.names []) (bindC (envOfC qual scope s.heap.objs.size f cd).kindOf (ps.zip us) λ_=>none) s1):
  Inv (rP CX P w K mg base N qual scope f cd A outer s H E) [] (start N vs) H s1:=by
 have bK:ps.length<=N.length:=by have:=congrArg List.length S.pre;rw[mX]at this;omega
 obtain⟨h1,tk,rfl,hk⟩:=x.done;have noA:∀b:Addr,b∉(rP CX P w K mg base N qual scope f cd A outer s H E).ex:=λb z=>absurd (show b∈([]:List Addr)from z) (by simp);refine⟨⟨e0.mod,S.kind,U,U,aM _,λy z c h1 h2=>?_,λy hy=>?_,λy c _ h=>?_,λ_=>hd,Around.frames_deeper e0.frames, .inr ⟨U,U⟩,λb z=>absurd z (noA b),e0.bs,e0.lY,λb _ _=>noA b,λb z=>absurd z (noA b),e0.j0,e0.pU⟩,
  rfl,e0.bare,Un.kept hk,⟨_,x.toInCall.ns,λi y v h1 h2 h3=>?_⟩,λy c h=>⟨_,x.cell y c h⟩,e0.aK.fresh (aM _),λy c h=>?_,λp hp=>absurd (show p∈([]:List (Addr×Obj))from hp) (by simp),e0.aK.kept hk,?_⟩
 ·exact name_of_addr x.apart (PySem.mem_of_lookup h1) (PySem.mem_of_lookup h2)
 ·have hy:scope.names.lookup y=some .cell\/scope.names.lookup y=some .free:=hy
  rcases hy with hy|hy
  ·exact Ks hy
  ·exact absurd U (S.C3 _ (PySem.mem_of_lookup hy))
 ·exact x9 (x.above y c (PySem.mem_of_lookup h))
 ·have hi:i<vs.length:=by
   unfold start at h2;by_cases hi:i<vs.length
   ·exact hi
   ·rw[eM (by simpa using hi)]at h2
    rw[List.getElem?_replicate]at h2;split at h2<;>cases h2
  have ha:vs[i]? =some v:=by
   unfold start at h2;rw[dQ (by simpa using hi),ez]at h2;cases e:vs[i]? with
   |none=>rw[e]at h2;cases h2
   |some a=>rw[e]at h2;cases h2;rfl
  obtain⟨u,hu,rv⟩:=r.get ha;have hp:ps[i]? =some y:=by rw[<-S.pre,List.getElem?_take_of_lt (by omega)];exact h1
  have ndP:ps.Nodup:=by rw[<-S.pre];exact S.nd.sublist (List.take_sublist _ _)
  refine⟨u,rv,?_⟩;rcases S.par y (bC hp)with k|k
  ·exact .inl ⟨k,Kq ndP hp hu k⟩
  ·obtain⟨c,e⟩:=Ks (n:=s.heap.objs.size+1) k
   refine .inr ⟨.inl k,c,e,?_⟩;have q:=x.cell y c e;rw[Kr ndP hp hu (by show scope.names.lookup y≠_;rw[k];decide)]at q;exact q
 ·exact e0.aK.fresh (x9 (x.above y c (PySem.mem_of_lookup h)))
 ·unfold start
  show _=N.length;rw[bL,aI,pE];omega
theorem Tu{CX:j7}{P:Program}{w:World}{K:PySem.W.Frag}{mg:Str->Option Value}{base:Heap}{k:Nat}{f:Addr}{name qual:Str}{params:Arguments}{body:List Stmt}{scope:Scope}{dV kV doc pm aC ct oc:Value}{an od:Option Addr}
  {osl:Array (Option Value)} {N ps:List Str} {sp:Sp} (lk:K.lookup f=some ⟨oc,od, .func (PySem.W.fnOf name qual params body scope dV kV doc pm an aC ct),osl⟩) (kT:PySem.W.codeIn K aC qual=true) (S:C2 N ps scope)
  (len:∀vs H Q E,sp vs H Q E->vs.length=ps.length)
  (hbody:∀(A:Around) (outer:List Env) (s:Shared) (H:Hp) (vs:List V) (Q:VK) (E:XK),di k (A.deeper (envOfC qual scope s.heap.objs.size f aC))->sp vs H Q E->
   ∃t,jB (rP CX P w K mg base N qual scope f aC A outer s H E) body t/\ t {nx:=λ_ H'=>Q .aO H',rt:=Q} (start N vs) H):
  iu P w K mg base CX (k+1) f (PySem.W.fnOf name qual params body scope dV kV doc pm an aC ct) ps sp:=by
 refine⟨len,λA outer s H args us vs Q E hr e0 hb r nz=>?_⟩;have hl:=len _ _ _ _ nz;have KX:K.In s.heap:=e0.mod.vI.keeps λb o e=>(e0.bs b o e).1;have lim:s.heap.NoLimit:=e0.mod.nolimit.keeps λb o e=>(e0.bs b o e).1;have hkind:∀y∈ps.zip us,scope.names.lookup y.1=some .local\/(scope.names.lookup y.1=some .cell/\ ((cellsFrom (s.heap.objs.size+1) scope.names []).lookup y.1).isSome=true):=λ⟨n,v⟩ hy=>by
  rcases S.par n (Bw hy).1 with q|q
  ·exact .inl q
  ·exact .inr ⟨q,PySem.W.cellsFrom_some _ _ _ (.inl q)⟩
 refine codeAny_call_function hr.depth (KX _ _ lk) U S.co S.gen U (PySem.W.codeRec_of KX kT) (hb _ _ _ _ ?_);refine wpAny_newFunctionEnv_cells S.kind hkind λenv he s1 x=>?_;subst he;refine⟨lim.keeps x.toInCall.keep,codeAny_func ?_⟩;obtain⟨t,ht,hq⟩:=hbody A outer s H vs Q E (hr.deeper _) nz;have I:Inv (rP CX P w K mg base N qual scope f aC A outer s H E) [] (start N vs) H s1:=Tt S hr.hd e0 hl r x;refine wpAny_mono (ht [] s1 (start N vs) H _ I hq) (λfl s' hs=>?_) λe s' hs=>hs;have fin:∀{σ':St} {H':Hp} {v:V} {u:Value},Inv (rP CX P w K mg base N qual scope f aC A outer s H E) [] σ' H' s'->RelV v u->Q v H'->CE outer P w H s Q u s':=λ{σ' H' v u} J rv q=>⟨v,H',J.os,J.bare,J.base,J.aK,rv,q⟩
 cases fl with
 |ret u=>obtain⟨v,σ',H',J,rv,q⟩:=hs;exact fin J rv q
 |next=>obtain⟨σ',H',J,q⟩:=hs;exact fin (v:=V.aO) (u:=Value.none) J U q
 |brk|cont=>obtain⟨_,_,_,q⟩:=hs;exact False.elim q
end L2
namespace L2
open PySem PySem.Spec PyProof.Rows
section
variable{X:Cx}{x:Str}{p pos:Pos}{e:Expr}{es:List Expr}{t:TA}{id T:String}{r:List V->Hp->VK->Prop}
def Kt(r:List V->Hp->VK->Prop)(t:TA):TE:=λσ H Q=>t σ H λvs H1=>r vs H1 Q
theorem pY(hc:jD X (.builtin id) r)(hg:Gl X x)(hm:X.mg x=none)(hv:bootBuiltins x=some (.builtin id))(ha:PA X (e::es) t)(hn:x≠"__name__":=by decide)(fN:(x==("__debug__":Str))=false:=by decide)
  (he:starEach (e::es) X.env=(false,eval e X.env)::starEach es X.env:=by rfl) (bK:(backTo pos (starEach es X.env)).any (·.1)=false:=by rfl):PE X (.Call (.Name x p) (e::es) [] pos) (Kt r t):=by
 intro pins s σ H Q I h;refine wpAny_Call_Name_kw (oA I hg hm hv ?_ hn fN);exact PyProof.Rows.callWith_builtin1 (aV (ha pos pins s σ H _ I h) λus s1 ⟨vs,H1,I1,r1,q1⟩=>hc pins s1 σ H1 vs us Q I1 r1 q1) he bK
theorem oG(hc:jD X (.type T) r)(hg:Gl X x)(hm:X.mg x=none)(hv:bootBuiltins x=some (.type T))(ha:PA X (e::es) t)(hn:x≠"__name__":=by decide)(fN:(x==("__debug__":Str))=false:=by decide)
  (he:starEach (e::es) X.env=(false,eval e X.env)::starEach es X.env:=by rfl) (bK:(backTo pos (starEach es X.env)).any (·.1)=false:=by rfl):PE X (.Call (.Name x p) (e::es) [] pos) (Kt r t):=by
 intro pins s σ H Q I h;refine wpAny_Call_Name_kw (oA I hg hm hv ?_ hn fN);exact PyProof.Rows.callWith_type1 (aV (ha pos pins s σ H _ I h) λus s1 ⟨vs,H1,I1,r1,q1⟩=>hc pins s1 σ H1 vs us Q I1 r1 q1) he bK
end
end L2
namespace HT
open PySem PyProof.Rows
section
open PySem.SeqAt
open PySem.AutoSeq1 (wpAny_loadPart')
open PySem.MeetsSeq PySem.MeetsSeq2 PySem.MeetsSeq3
end
section
variable{prog:Program}{w:World}{A:Around}{E:Value->Shared->Prop}{s:Shared}
def iw(n d:Nat):Option Int->Nat
 |none=>d
 |some v=>if v<0 then(v+(n:Int)).toNat else min v.toNat n
theorem Tv(n d:Nat):iw n d none=d:=rfl
theorem vV(n d k:Nat):iw n d (some (k:Int))=min k n:=by show(if(k:Int)<0 then((k:Int)+(n:Int)).toNat else min (k:Int).toNat n)=min k n;rw[if_neg (by omega),iZ]
end
end HT
namespace L2
open PySem PySem.Spec PyProof.Rows
abbrev TO:=St->Hp->(Option Int->Hp->Prop)->Prop
def PO(X:Cx)(e:Option Expr)(t:TO):Prop:=
 ∀(pins:List (Addr×Obj)) (s:Shared) (σ:St) (H:Hp) (Q:Option Int->Hp->Prop),Inv X pins σ H s->t σ H Q->
  wpAny (model X.prog X.w) X.A (evalPart e X.env) (λu s'=>∃o H',Inv X pins σ H' s'/\ IsPart u o/\ Q o H') X.xe s
def Tw:TO:=λ_ H Q=>Q none H
def vW(t:TE):TO:=λσ H Q=>t σ H λx H1=>∃i,x= .int i/\ Q (some i) H1
theorem intsAre_of{ns:List Int}:∀{us:List Value},Vals (ns.map V.int) us->IntsAre us ns:=by
 induction ns with
 |nil=>intro us r;rw[pG]at r;cases r;exact .nil
 |cons n ns ih=>
  intro us r;rw[da]at r;cases r with
  |cons r1 r2=>obtain⟨t,e⟩:=r1;subst e;exact .cons n t (ih r2)
section
variable{X:Cx}{e:Expr}{te:TE}{lo hi:Option Expr}{tl th:TO}{pos p2:Pos}
theorem C4:PO X none Tw:=by intro pins s σ H Q I h;rw[evalPart_none];exact wpAny_pure ⟨none,H,I, .none,h⟩
theorem je(h:PE X e te):PO X (some e) (vW te):=by intro pins s σ H Q I hw;rw[evalPart_some];refine aV (h pins s σ H _ I hw) λu s1 ⟨x,H1,I1,r1,q1⟩=>?_;obtain⟨i,rfl,q⟩:=q1;obtain⟨t,rfl⟩:=r1;exact⟨some i,H1,I1, .int i t,q⟩
def Ku(X:Cx)(r:V->Option Int->Option Int->Hp->VK->Prop):Prop:=
 ∀(pins:List (Addr×Obj)) (s:Shared) (σ:St) (H:Hp) (x:V) (v vl vu:Value) (lo hi:Option Int) (sl:Addr) (Q:VK),Inv X pins σ H s->RelV x v->s.heap.IsSliceOf sl vl vu .none->IsPart vl lo->IsPart vu hi->r x lo hi H Q->
  ∃T id,typeLookup (.type T) "__getitem__"=pure (some (.builtin id))/\ s.TypeIs v T/\ wpAny (model X.prog X.w) X.A (getItem v (.ref sl)) (EP X pins σ Q) X.xe s
def C5(r:V->Option Int->Option Int->Hp->VK->Prop)(te:TE)(tl th:TO):TE:=λσ H Q=>te σ H λx H1=>tl σ H1 λl H2=>th σ H2 λu H3=>r x l u H3 Q
theorem oH{r:V->Option Int->Option Int->Hp->VK->Prop}(hr:Ku X r)(he:PE X e te)(hl:PO X lo tl)(hu:PO X hi th):PE X (.Subscript e (.Slice lo hi none p2) pos) (C5 r te tl th):=by intro pins s σ H Q I h;refine Subscript_ (aV (he pins s σ H _ I h) λv s1 ⟨x,H1,I1,r1,q1⟩=>?_);refine wpAny_Slice (aV (hl pins s1 σ H1 _ I1 q1) λvl s2 ⟨l,H2,I2,pl,q2⟩=>aV (hu pins s2 σ H2 _ I2 q2) λvu s3 ⟨u,H3,I3,pu,q3⟩=>?_);rw[evalPart_none];refine wpAny_pure ?_;have I4:Inv X pins σ H3 {s3 with heap:=s3.heap.push {cls:= .type "slice",data:= .fields #[vl,vu, .none]}}:=I3.kept (t':=s3.toks) λb ob q=>Heap.get?_push_of_some _ q;obtain⟨T,id,hT,ht,hg⟩:=hr pins {s3 with heap:=s3.heap.push {cls:= .type "slice",data:= .fields #[vl,vu, .none]}} σ H3 x v vl vu l u s3.heap.objs.size Q I4 r1 (Heap.IsSliceOf.new ..) pl pu q3;show wpAny (model X.prog X.w) X.A (subscriptTail e (.Slice lo hi none p2) v (.ref s3.heap.objs.size)) (EP X pins σ Q) X.xe {s3 with heap:=s3.heap.push {cls:= .type "slice",data:= .fields #[vl,vu, .none]}};exact tail_any (ops:=[.ref s3.heap.objs.size,v]) ht hT hg (by with_unfolding_all rfl)
def fT(xs:List V)(lo hi:Option Int):List V:=(xs.drop (HT.iw xs.length 0 lo)).take (HT.iw xs.length xs.length hi-HT.iw xs.length 0 lo)
theorem Tx(xs:List V)(lo hi:Option Int):(fT xs lo hi).length<=xs.length:=by unfold fT;rw[mX,iE];omega
end
end L2
namespace L2
open PySem PySem.Spec PyProof.Rows
def me(n:Nat)(i:Int):Option Nat:=if 0<=i then(if i<n then some i.toNat else none)else if-(n:Int)<=i then some (i+n).toNat else none
def gi{α:Type}(xs:List α)(i:Int):Option α:=(me xs.length i).bind λj=>xs[j]?
theorem Kv{n:Nat}{i:Int}{j:Nat}(h:me n i=some j):seqIndex? i n=some j/\ j<n/\ -(n:Int)<=i/\ i<n:=by
 unfold me at h;by_cases h0:0<=i
 ·rw[if_pos h0]at h
  by_cases h1:i<n
  ·rw[if_pos h1]at h
   have e:i.toNat=j:=ay h;exact⟨by rw[seqIndex_of h0 h1,e],by omega,by omega,h1⟩
  ·rw[if_neg h1]at h;cases h
 ·rw[if_neg h0]at h
  by_cases h1: -(n:Int)<=i
  ·rw[if_pos h1]at h
   have e:(i+n).toNat=j:=ay h;exact⟨by rw[seqIndex_neg (by omega) h1,e],by omega,h1,by omega⟩
  ·rw[if_neg h1]at h;cases h
theorem Kw{α:Type}{xs:List α}{i:Int}{v:α}(h:gi xs i=some v):∃j,seqIndex? i xs.length=some j/\ xs[j]? =some v/\ j<xs.length/\ -(xs.length:Int)<=i/\ i<xs.length:=by
 unfold gi at h;cases e:me xs.length i with
 |none=>rw[e]at h;cases h
 |some j=>rw[e]at h;obtain⟨h1,h2,h3,h4⟩:=Kv e;exact⟨j,h1,h,h2,h3,h4⟩
theorem bH{α:Type}{xs:List α}{j:Nat}{v:α}(h:xs[j]? =some v):gi xs (j:Int)=some v:=by
 have hj:j<xs.length:=(cP.mp h).1;have e:me xs.length (j:Int)=some j:=by unfold me;rw[if_pos (by omega),if_pos (by omega)];simp
 unfold gi;rw[e];exact h
theorem Tz{α:Type}(xs:List α)(v:α):gi (xs++[v]) (-1)=some v:=by
 have hl:(xs++[v]).length=xs.length+1:=by simp
 have e:me (xs++[v]).length (-1)=some xs.length:=by unfold me;rw[hl,if_neg (by decide),if_pos (by omega)];congr 1;omega
 unfold gi;rw[e];show(xs++[v])[xs.length]? =some v;simp
def vX(b:Expr):Prop:=∀o i,subscripted b false o i=operate [o,i] (getItem o i)
def vY(X:Cx)(r:R2):Prop:=
 ∀(value slice:Expr) (pins:List (Addr×Obj)) (s:Shared) (σ:St) (H:Hp) (x y:V) (v u:Value) (Q:VK),Inv X pins σ H s->RelV x v->RelV y u->r x y H Q->
  subscripted slice false v u=operate [v,u] (getItem v u)->wpAny (model X.prog X.w) X.A (subscriptTail value slice v u) (EP X pins σ Q) X.xe s
def C6(X:Cx)(id:String)(r:V->List V->Hp->VK->Prop):Prop:=
 ∀(pins:List (Addr×Obj)) (s:Shared) (σ:St) (H:Hp) (x:V) (xs:List V) (v:Value) (us:List Value) (Q:VK),Inv X pins σ H s->RelV x v->Vals xs us->r x xs H Q->
  wpAny (model X.prog X.w) X.A (call (.builtin id) (v::us)) (EP X pins σ Q) X.xe s
section
variable{X:Cx}{a b:Expr}{ta tb:TE}{pos:Pos}
theorem zq{r:R2}(hr:vY X r)(ha:PE X a ta)(hb:PE X b tb)(hs:vX b):PE X (.Subscript a b pos) (cw r ta tb):=by intro pins s σ H Q I h;exact Subscript_ (CT ha hb I h λv u s2 x y H2 I2 rx ry q=>hr a b pins s2 σ H2 x y v u Q I2 rx ry q (hs _ _))
def fU(K:PySem.W.Frag):R2:=λx y H Q=>∃p xs i v,x= .ref p/\ y= .int i/\ ab K H p xs/\ gi xs i=some v/\ Q v H
def vZ(K:PySem.W.Frag):R2:=λx y H Q=>∃p xs i v,x= .ref p/\ y= .int i/\ bz K H p xs/\ gi xs i=some v/\ Q v H
theorem Kx:vY X (fU X.K):=by
 intro value slice pins s σ H x y v u Q I rx ry h hs;obtain⟨p,xs,i,z,rfl,rfl,hq,he,q⟩:=h;cases rx;obtain⟨t,rfl⟩:=ry;obtain⟨ai,r,pl,hz⟩:=I.list hq;obtain⟨j,h1,h2,h3,h4,h5⟩:=Kw he;obtain⟨w,ew,C7⟩:=r.get h2;have hl:=r.length;have hn:=zl;have fin:EP X pins σ Q w s:=⟨z,H,I,C7,q⟩
 by_cases h0:0<=i
 ·have hj:i.toNat=j:=by
   rw[seqIndex_of h0 h5]at h1;exact ay h1
  exact item_listR pl.isList h0 (by omega) (by rw[hj];simpa using ew) fin hs
 ·have hj:(i+(ai.toArray.size:Int)).toNat=j:=by
   rw[seqIndex_neg (by omega) h4]at h1;rw[dJ,<-hl];exact ay h1
  exact subscriptTail_builtinR (x:=w) pl.isList.typeIs slot_list_getitem.lookup
   (wpAny_getItem_list_neg (Q:=λr s'=>r=w/\ EP X pins σ Q r s') pl.isList (by omega) (by rw[dJ]<;>omega) (by omega) (by rw[hj];simpa using ew) ⟨U,fin⟩) hs
theorem Kz:vY X (vZ X.K):=by
 intro value slice pins s σ H x y v u Q I rx ry h hs;obtain⟨p,xs,i,z,rfl,rfl,hq,he,q⟩:=h;cases rx;obtain⟨t,rfl⟩:=ry;obtain⟨ai,r,pl,hz⟩:=I.tuple hq;obtain⟨j,h1,h2,h3,h4,h5⟩:=Kw he;obtain⟨w,ew,C7⟩:=r.get h2;have hl:=r.length;have hn:=zl;have fin:EP X pins σ Q w s:=⟨z,H,I,C7,q⟩
 exact subscriptTail_builtinR (x:=w) pl.typeIs slot_tuple_getitem.lookup
  (getItem_tuple (j:=j) (Q:=λr s'=>r=w/\ EP X pins σ Q r s') pl (by omega) (by omega) (by rw[dJ,<-hl];exact h1) (by simpa using ew) ⟨U,fin⟩) hs
theorem TB(ai:List Value)(n j:Nat)(u:Value):Obj.mapSeq (·.setIfInBounds j u) {cls:= .type "list",data:= .seq ai.toArray n}={cls:= .type "list",data:= .seq (ai.set j u).toArray n}:=by simp[Obj.mapSeq]
theorem Inv.lst{pins:List (Addr×Obj)}{σ:St}{H:Hp}{s:Shared}{p:Addr}{xs:List V}(I:Inv X pins σ H s)(h:H p=some (.lst xs)):
  ∃(ai:List Value) (n:Nat),Vals xs ai/\ s.heap.get? p=some {cls:= .type "list",data:= .seq ai.toArray n}/\ xs.length<=sizeLine:=by
 obtain⟨z,ai,n,r,e⟩:=I.aK p _ h;exact⟨ai,n,r,e,z⟩
theorem Inv.TC{pins:List (Addr×Obj)}{σ:St}{H:Hp}{s:Shared}{p:Addr}{xs ys:List V}{ai its':List Value}{n n':Nat}{f:Obj->Obj}(I:Inv X pins σ H s)(h:H p=some (.lst xs))
  (ho:s.heap.get? p=some {cls:= .type "list",data:= .seq ai.toArray n}) (hf:f {cls:= .type "list",data:= .seq ai.toArray n}={cls:= .type "list",data:= .seq its'.toArray n'}) (r:Vals ys its') (hz:ys.length<=sizeLine) (t:Nat):
  Inv X pins σ (upd H p (.lst ys)) {s with heap:=s.heap.update p f,toks:=t}:=by
 have e:(s.heap.update p f).get? p=some {cls:= .type "list",data:= .seq its'.toArray n'}:=by rw[Heap.get?_update_self f ho (by rw[hf]<;>rfl),hf]
 refine I.write (x:=p) (e:=p) (by rw[h];trivial) (.inl U) (λb u hb q=>(Heap.get?_update_other _ _ (Ne.symm hb)).trans q) ⟨_,e⟩ ?_;exact⟨hz,its',n',r,e⟩
def TF:V->V->V->Hp->(Hp->Prop)->Prop:=λo i v H Q=>∃p xs k j,o= .ref p/\ i= .int k/\ H p=some (.lst xs)/\ me xs.length k=some j/\ Q (upd H p (.lst (xs.set j v)))
theorem set_list:JY X TF:=by
 intro pins s σ H o i v ov iv u Q I ro ri rv h;obtain⟨p,xs,k,j,rfl,rfl,hp,hj,q⟩:=h;cases ro;obtain⟨t,rfl⟩:=ri;obtain⟨ai,n,r,ho,hz⟩:=I.lst hp;obtain⟨h1,h2,h3,h4⟩:=Kv hj;have hl:=r.length;have hn:=zl;have I':Inv X pins σ (upd H p (.lst (xs.set j v))) {s with heap:=s.heap.update p (Obj.mapSeq (·.setIfInBounds j u))}:=I.TC hp ho (TB ai n j u) (r.set rv j) (by rw[sU];exact hz) s.toks
 by_cases h0:0<=k
 ·have hk:k.toNat=j:=by
   rw[seqIndex_of h0 h4]at h1;exact ay h1
  exact PySem.W.ki_setAt ho h0 (by omega) (by rw[dJ,<-hl];exact h4) (by rw[hk];exact⟨_,I',q⟩)
 ·have hk:(k+(ai.toArray.size:Int)).toNat=j:=by
   rw[seqIndex_neg (by omega) h3]at h1;rw[dJ,<-hl];exact ay h1
  exact PySem.W.ki_setBack ho (by omega) (by rw[dJ,<-hl];exact h3) (by omega) (by rw[hk];exact⟨_,I',q⟩)
theorem TH(lo hi:Option Int)(n:Nat):(sliceBounds lo hi none n).1=((HT.iw n 0 lo:Nat):Int)/\ (sliceBounds lo hi none n).2.1=((HT.iw n n hi:Nat):Int)/\ (sliceBounds lo hi none n).2.2=1:=by
 refine⟨?_,?_,U⟩
 ·cases lo with
  |none=>simp[sliceBounds,HT.iw]
  |some i=>
   simp only[sliceBounds,HT.iw,Option.getD_none,show(1:Int)>0 by decide,if_true];by_cases h:i<0
   ·simp only[h,if_true]<;>omega
   ·simp only[h,if_false]<;>omega
 ·cases hi with
  |none=>simp[sliceBounds,HT.iw]
  |some i=>
   simp only[sliceBounds,HT.iw,Option.getD_none,show(1:Int)>0 by decide,if_true];by_cases h:i<0
   ·simp only[h,if_true]<;>omega
   ·simp only[h,if_false]<;>omega
theorem TJ(ai:List Value)(lo hi:Option Int):slicePick ai.toArray lo hi none=((ai.drop (HT.iw ai.length 0 lo)).take (HT.iw ai.length ai.length hi-HT.iw ai.length 0 lo)).toArray:=by obtain⟨h1,h2,h3⟩:=TH lo hi ai.toArray.size;unfold slicePick;rw[h1,h2,h3];simp only[sliceRange_one,pick_run,dJ]<;>rfl
def C8(K:PySem.W.Frag):V->Option Int->Option Int->Hp->VK->Prop:=λx lo hi H Q=>∃a xs,x= .ref a/\ ab K H a xs/\ ∀p,H p=none->Q (.ref p) (upd H p (.lst (fT xs lo hi)))
theorem oI:Ku X (C8 X.K):=by intro pins s σ H x v vl vu lo hi sl Q I rx hs pl pu h;obtain⟨a,xs,rfl,hx,q⟩:=h;cases rx;obtain⟨ai,r,ht,hz⟩:=I.list hx;have hlen:=r.length;refine⟨"list",_,slot_list_getitem.lookup,ht.isList.typeIs,?_⟩;refine wpAny_getItem_list_slice ht.isList hs pl pu .none (by simp) ?_ (by rw[dJ]<;>omega);rw[TJ,<-hlen];refine⟨.ref s.heap.objs.size,_,I.laid (t':=s.toks) (o:= .lst (fT xs lo hi)) (λb ob q=>Heap.get?_push_of_some _ q) (aM _) ?_,U,q _ (I.aK.fresh (aM _))⟩;exact⟨cO (Tx xs lo hi) hz,_,0,(r.drop (HT.iw xs.length 0 lo)).take (HT.iw xs.length xs.length hi-HT.iw xs.length 0 lo),Heap.get?_push_size _ U⟩
def pZ:V->Bool
 | .aO| .bl _| .int _| .str _=>true
 |_=>false
def mf:V->V->Bool
 | .aO, .aO=>true
 | .bl a, .bl b=>a==b
 | .bl a, .int b=>(if a then 1 else 0)==b
 | .int a, .bl b=>a==(if b then 1 else 0)
 | .int a, .int b| .str a, .str b=>a==b
 |_,_=>false
theorem TK{A:Around}{s:Shared}{y x:V}{u v:Value}(ry:RelV y u)(rx:RelV x v)(fy:pZ y=true)(fx:pZ x=true):SeqAt.EqAt A s u v (mf y x):=by
 cases y with
 |aO=>
  cases ry;cases x with
  |aO=>cases rx;exact SeqAt.EqAt.same _
  |bl b=>cases rx;exact SeqAt.EqAt.none_bool b
  |int b=>obtain⟨t,rfl⟩:=rx;exact SeqAt.EqAt.none_int b t
  |str b=>obtain⟨t,rfl⟩:=rx;exact SeqAt.EqAt.none_str b t
  |_=>exact absurd (show false=true from fx) fL
 |bl a=>
  cases ry;cases x with
  |aO=>cases rx;exact SeqAt.EqAt.bool_none a
  |bl b=>cases rx;exact SeqAt.EqAt.bool_bool a b
  |int b=>obtain⟨t,rfl⟩:=rx;exact SeqAt.EqAt.bool_int a b t
  |str b=>obtain⟨t,rfl⟩:=rx;exact SeqAt.EqAt.bool_str a b t
  |_=>exact absurd (show false=true from fx) fL
 |int a=>
  obtain⟨t',rfl⟩:=ry;cases x with
  |aO=>cases rx;exact SeqAt.EqAt.int_none a t'
  |bl b=>cases rx;exact SeqAt.EqAt.int_bool a t' b
  |int b=>obtain⟨t,rfl⟩:=rx;exact SeqAt.EqAt.int_int a t' b t
  |str b=>obtain⟨t,rfl⟩:=rx;exact SeqAt.EqAt.int_str a t' b t
  |_=>exact absurd (show false=true from fx) fL
 |str a=>
  obtain⟨t',rfl⟩:=ry;cases x with
  |aO=>cases rx;exact SeqAt.EqAt.str_none a t'
  |bl b=>cases rx;exact SeqAt.EqAt.str_bool a t' b
  |int b=>obtain⟨t,rfl⟩:=rx;exact SeqAt.EqAt.str_int a t' b t
  |str b=>obtain⟨t,rfl⟩:=rx;exact SeqAt.EqAt.str_str a t' b t
  |_=>exact absurd (show false=true from fx) fL
 |_=>exact absurd (show false=true from fy) fL
def jf(x:V)(u:Value):Bool:=match u with
 | .none=>mf .aO x
 | .bool b=>mf (.bl b) x
 | .int i _=>mf (.int i) x
 | .str z _=>mf (.str z) x
 |_=>false
theorem KA{x y:V}{u:Value}(r:RelV y u)(f:pZ y=true):jf x u=mf y x:=by
 cases y with
 |aO|bl b=>cases r;rfl
 |int i|str z=>obtain⟨t,rfl⟩:=r;rfl
 |_=>exact absurd (show false=true from f) fL
theorem v8{x:V}:∀{xs:List V} {us:List Value},Vals xs us->xs.all pZ=true->us.any (jf x)=xs.any λy=>mf y x
 |_,_, .nil,_=>rfl
 |y::xs,u::us, .cons r t,f=>by rw[iB,bb]at f;rw[n9,n9,KA r f.1,v8 t f.2]
theorem v_{A:Around}{s:Shared}{x:V}{v:Value}(rx:RelV x v)(fx:pZ x=true):∀{xs:List V} {us:List Value},Vals xs us->xs.all pZ=true->∀u∈us,SeqAt.EqAt A s u v (jf x u)
 |_,_, .nil,_=>λu hu=>by cases hu
 |y::xs,u::us, .cons r t,f=>λu' hu=>by
  rw[iB,bb]at f;rcases a_.mp hu with rfl|hu
  ·rw[KA r f.1];exact TK r rx f.1 fx
  ·exact v_ rx fx t f.2 u' hu
def gj(x:V)(xs:List V):Bool:=xs.any λy=>mf y x
def C9(K:PySem.W.Frag)(neg:Bool):R2:=λx y H Q=>∃p xs,y= .ref p/\ (ab K H p xs\/bz K H p xs)/\ pZ x=true/\ xs.all pZ=true/\ Q (.bl (if neg then !gj x xs else gj x xs)) H
theorem zr:dN X (compareOp .In) (C9 X.K false):=by
 intro pins s σ H x y v u Q I rx ry h;obtain⟨p,xs,rfl,hq,fx,fs,q⟩:=h;cases ry;rcases hq with hq|hq
 ·obtain⟨ai,r,pl,hz⟩:=I.list hq
  refine SeqAt.in_listAt (jf x) pl.isList (λw hw=>v_ rx fx r fs w (by simpa using hw)) ⟨.bl _,H,I,U,?_⟩;rw[show ai.toArray.any (jf x)=ai.any (jf x) by simp,v8 r fs];exact q
 ·obtain⟨ai,r,pl,hz⟩:=I.tuple hq
  refine SeqAt.in_tupleAt (jf x) pl (λw hw=>v_ rx fx r fs w (by simpa using hw)) ⟨.bl _,H,I,U,?_⟩;rw[show ai.toArray.any (jf x)=ai.any (jf x) by simp,v8 r fs];exact q
theorem TM:dN X (compareOp .NotIn) (C9 X.K true):=by
 intro pins s σ H x y v u Q I rx ry h;obtain⟨p,xs,rfl,hq,fx,fs,q⟩:=h;cases ry;rcases hq with hq|hq
 ·obtain⟨ai,r,pl,hz⟩:=I.list hq
  refine SeqAt.notIn_listAt (jf x) pl.isList (λw hw=>v_ rx fx r fs w (by simpa using hw)) ⟨.bl _,H,I,U,?_⟩;rw[show ai.toArray.any (jf x)=ai.any (jf x) by simp,v8 r fs];exact q
 ·obtain⟨ai,r,pl,hz⟩:=I.tuple hq
  refine SeqAt.notIn_tupleAt (jf x) pl (λw hw=>v_ rx fx r fs w (by simpa using hw)) ⟨.bl _,H,I,U,?_⟩;rw[show ai.toArray.any (jf x)=ai.any (jf x) by simp,v8 r fs];exact q
theorem TN:jD X (.builtin "len") (λxs H Q=>∃p ys,xs=[.ref p]/\ (ab X.K H p ys\/bz X.K H p ys)/\ Q (.int ys.length) H):=by
 intro pins s σ H xs us Q I r h;obtain⟨p,ys,rfl,hq,q⟩:=h;obtain⟨u,rfl,rx⟩:=vals1 r;cases rx;have hn:=zl;rcases hq with hq|hq
 ·obtain⟨ai,r',pl,hz⟩:=I.list hq
  have hlen:=r'.length;exact Calls.call_len_list pl.isList (by simp only[dJ]<;>omega) ⟨.int ys.length,H,I.tok _,⟨s.toks+1,by rw[dJ,hlen]⟩,q⟩
 ·obtain⟨ai,r',pl,hz⟩:=I.tuple hq
  have hlen:=r'.length;exact len_tuple pl (by simp only[dJ]<;>omega) ⟨.int ys.length,H,I.tok _,⟨s.toks+1,by rw[dJ,hlen]⟩,q⟩
theorem C_:jD X (.type "list") (λxs H Q=>∃p ys,xs=[.ref p]/\ (ab X.K H p ys\/bz X.K H p ys)/\ ∀l,H l=none->Q (.ref l) (upd H l (.lst ys))):=by
 intro pins s σ H xs us Q I r h;obtain⟨p,ys,rfl,hq,q⟩:=h;obtain⟨u,rfl,rx⟩:=vals1 r;cases rx;have fin:∀(ai:List Value),Vals ys ai->ys.length<=sizeLine->∀(h':Heap) (c':Nat),(∀b o',s.heap.get? b=some o'->h'.get? b=some o')->
   h'.get? s.heap.objs.size=some {cls:= .type "list",dict:=none,data:= .seq ai.toArray c',slots:= #[]}->EP X pins σ Q (.ref s.heap.objs.size) {s with heap:=h'}:=λai r' hz h' c' kp e=>
  ⟨.ref s.heap.objs.size,_,I.laid (t':=s.toks) kp (aM _) (show dU X.prog X.w _ h' _ (.lst ys)from⟨hz,ai,c',r',e⟩),U,q _ (I.aK.fresh (aM _))⟩
 rcases hq with hq|hq
 ·obtain⟨ai,r',pl,hz⟩:=I.list hq
  have hlen:=r'.length;obtain⟨o,ho,hc,n,hd⟩:=pl.isList;exact call_list_seq p (.inl U) ho hc hd (λh' c' kp e=>fin ai r' hz h' c' kp e) (by simp only[dJ]<;>omega)
 ·obtain⟨ai,r',pl,hz⟩:=I.tuple hq
  have hlen:=r'.length;obtain⟨o,ho,hc,n,hd⟩:=pl;exact call_list_seq p (.inr U) ho hc hd (λh' c' kp e=>fin ai r' hz h' c' kp e) (by simp only[dJ]<;>omega)
theorem TQ:jD X (.type "tuple") (λxs H Q=>∃p ys,xs=[.ref p]/\ ((ab X.K H p ys/\ ∀l,H l=none->Q (.ref l) (upd H l (.tup ys)))\/(bz X.K H p ys/\ Q (.ref p) H))):=by
 intro pins s σ H xs us Q I r h;obtain⟨p,ys,rfl,h⟩:=h;obtain⟨u,rfl,rx⟩:=vals1 r;cases rx;rcases h with⟨hq,q⟩|⟨hq,q⟩
 ·obtain⟨ai,r',pl,hz⟩:=I.list hq
  have hlen:=r'.length;refine call_tuple_list pl.isList (λh' kp=>?_) (by simp only[dJ]<;>omega);have I1:Inv X pins σ H {s with heap:=h'}:=I.kept (t':=s.toks) kp;have I2:Inv X pins σ (upd H h'.objs.size (.tup ys)) {s with heap:=h'.push {cls:= .type "tuple",data:= .seq ai.toArray}}:=I1.laid (t':=s.toks) (λb o e=>Heap.get?_push_of_some _ e) (aM _) (show dU X.prog X.w _ _ _ (.tup ys)from⟨hz,ai,r',IsTup.new _ _⟩)
  exact⟨.ref h'.objs.size,_,I2,U,q _ (I1.aK.fresh (aM _))⟩
 ·obtain⟨ai,r',pl,hz⟩:=I.tuple hq
  exact call_tuple_same pl ⟨.ref p,H,I,U,q⟩
def Dc(K:PySem.W.Frag)(T:String)(x:V)(H:Hp):Prop:=match x with
 | .str _=>T="str"
 | .int _=>T="int"
 | .ref p=>(T="list"/\ ∃xs,ab K H p xs)\/(T="tuple"/\ ∃o,K.lookup p=some o/\ o.cls= .type "tuple"/\ o.dict=none)\/
   (T="dict"/\ ((∃ax,H p=some (.dK ax))\/∃ax,H p=some (.dT ax)))\/(T="set"/\ ∃S n,H p=some (.set S n))
 |_=>False
theorem KC{pins:List (Addr×Obj)}{σ:St}{H:Hp}{s:Shared}{T:String}{x:V}{v:Value}(I:Inv X pins σ H s)(r:RelV x v)(ty:Dc X.K T x H):
  s.TypeIs v T/\ ∀a,v= .ref a->∃ob,s.heap.get? a=some ob/\ ob.dict=none:=by
 cases x with
 |str z=>obtain⟨t,rfl⟩:=r;cases (show T="str" from ty);exact⟨typeIs_str s z t,λ_ e=>nomatch e⟩
 |int i=>obtain⟨t,rfl⟩:=r;cases (show T="int" from ty);exact⟨typeIs_int s i t,λ_ e=>nomatch e⟩
 |ref p=>
  cases r;rcases ty with⟨rfl,xs,hq⟩|⟨rfl,o,hk,hc,hd⟩|⟨rfl,hk⟩|⟨rfl,S,n,hk⟩
  ·obtain⟨ai,_,pl,_⟩:=I.list hq
   refine⟨pl.isList.typeIs,λa e=>?_⟩;cases e;obtain⟨o,n,e,c,hd,_⟩:=pl;exact⟨o,e,hd⟩
  ·refine⟨⟨o,I.i8 p o hk,hc⟩,λa e=>?_⟩
   cases e;exact⟨o,I.i8 _ o hk,hd⟩
  ·have z:∃o,s.heap.get? p=some o/\ o.ExactDict:=by
    rcases hk with⟨ax,hk⟩|⟨ax,hk⟩
    ·obtain⟨_,_,_,_,o,_,_,e,ex,_⟩:=I.aK p _ hk
     exact⟨o,e,ex⟩
    ·obtain⟨_,_,_,_,o,_,_,e,ex,_⟩:=I.aK p _ hk
     exact⟨o,e,ex⟩
   obtain⟨o,e,ex⟩:=z;refine⟨⟨o,e,ex.1⟩,λa e2=>?_⟩;cases e2;exact⟨o,e,ex.2.1⟩
  ·obtain⟨o,_,_,_,e,ex,_⟩:=I.aK p _ hk
   refine⟨⟨o,e,ex.1⟩,λa e2=>?_⟩;cases e2;exact⟨o,e,ex.2.1⟩
 |_=>exact False.elim ty
def TR(K:PySem.W.Frag)(T:String)(r:V->List V->Hp->VK->Prop)(to:TE):TE:=λσ H Q=>to σ H λx H1=>Dc K T x H1/\ r x [] H1 Q
def TU(K:PySem.W.Frag)(T:String)(r:V->List V->Hp->VK->Prop)(to:TE)(t:TA):TE:=λσ H Q=>to σ H λx H1=>Dc K T x H1/\ t σ H1 λxs H2=>r x xs H2 Q
variable{o e:Expr}{es:List Expr}{to:TE}{t:TA}{name:Str}{apos cpos:Pos}{T id:String}{r:V->List V->Hp->VK->Prop}
theorem oJ(pa:PlainAttrs T)(slot:Slot T name id)(p6:typeOf (.builtin id)=pure (.type "method_descriptor"))(hm:C6 X id r)(ho:PE X o to)
  (hbase:attributeBase o name X.env (eval o X.env)=eval o X.env:=by rfl) (hline:(apos.endLine==cpos.line)=true:=by rfl):PE X (.Call (.Attribute o name apos) [] [] cpos) (TR X.K T r to):=by
 intro pins s σ H Q I h;refine wpAny_Call_method0_late hbase hline (aV (ho pins s σ H _ I h) λv s1 ⟨x,H1,I1,r1,ty,q1⟩=>?_);obtain⟨h1,h2⟩:=KC I1 r1 ty;exact⟨T,id,pa,slot,p6,h1,h2,Calls.callWith_builtin U (PySem.evalArgs_none (hm pins s1 σ H1 x [] v [] Q I1 r1 .nil q1))⟩
theorem wb(pa:PlainAttrs T)(slot:Slot T name id)(p6:typeOf (.builtin id)=pure (.type "method_descriptor"))(hm:C6 X id r)(ho:PE X o to)(ha:PA X (e::es) t)
  (hbase:attributeBase o name X.env (eval o X.env)=eval o X.env:=by rfl)
  (Dd:((backTo cpos (starEach (e::es) X.env)).all (λx=> !x.1)&&(backToKw cpos (keywordEach [] X.env)).all (λx=>x.1.isSome)
   &&decide ((e::es).length+([]:List Keyword).length+(if([]:List Keyword).isEmpty then 0 else 1)<30))=true:=by rfl)
  (hline:(apos.endLine==cpos.line)=true:=by rfl) (hs:starEach (e::es) X.env=(false,eval e X.env)::starEach es X.env:=by rfl) (hplain:(backTo cpos (starEach es X.env)).any (·.1)=false:=by rfl):
  PE X (.Call (.Attribute o name apos) (e::es) [] cpos) (TU X.K T r to t):=by
 intro pins s σ H Q I h;refine wpAny_Call_method_late hbase Dd hline U (aV (ho pins s σ H _ I h) λv s1 ⟨x,H1,I1,r1,ty,q1⟩=>?_);obtain⟨h1,h2⟩:=KC I1 r1 ty;refine⟨T,id,pa,slot,p6,h1,h2,?_⟩;have hA:=ha cpos pins s1 σ H1 _ I1 q1;rw[hs]at hA⊢;refine Calls.callWith_builtin (by show(false||(backTo cpos (starEach es X.env)).any (·.1))=false;rw[hplain]<;>rfl) (Calls.evalArgs_plain ?_);exact aV hA λus s2 ⟨vs,H2,I2,r2,q2⟩=>hm pins s2 σ H2 x vs v us Q I2 r1 r2 q2
end
end L2
namespace L2
open PySem PySem.Spec PyProof.Rows
def De(X:Cx)(id:String)(r:V->List V->Hp->VK->Prop):Prop:=
 ∀(pins:List (Addr×Obj)) (s:Shared) (σ:St) (H:Hp) (x:V) (xs:List V) (v:Value) (us:List Value) (Q:VK),Inv X pins σ H s->RelV x v->Vals xs us->r x xs H Q->
  wpAny (model X.prog X.w) X.A (call (.builtin id) (v::us)) (EP X pins σ Q) X.xe s
theorem Vals.one:∀{x:V} {us:List Value},Vals [x] us->∃u,us=[u]/\ RelV x u
 |_,_, .cons r .nil=>⟨_,U,r⟩
theorem Vals.zero:∀{us:List Value},Vals [] us->us=[]
 |_, .nil=>rfl
theorem Vals.dropLast{xs:List V}{us:List Value}(h:Vals xs us):Vals xs.dropLast us.dropLast:=by
 induction h with
 |nil=>exact .nil
 |cons r t ih=>
  cases t with
  |nil=>exact .nil
  |cons q t'=>exact .cons r ih
theorem TV{α:Type}(l:List α):l.eraseIdx (l.length-1)=l.dropLast:=by
 induction l with
 |nil=>rfl
 |cons a r ih=>
  cases r with
  |nil=>rfl
  |cons b r=>
   have e:(a::b::r).length-1=((b::r).length-1)+1:=by have h1:(a::b::r).length=r.length+2:=rfl;have h2:(b::r).length=r.length+1:=rfl;omega
   rw[e,List.eraseIdx_cons_succ,ih]
   all_goals rfl
section
variable{X:Cx}{pins:List (Addr×Obj)}{σ:St}{H:Hp}{s:Shared}{l b:Addr}{xs ys zs:List V}
theorem Inv.Df{ai its':List Value}{n:Nat}{f:Array Value->Array Value}{t':Nat}(I:Inv X pins σ H s)(hH:H l=some (.lst xs))
  (e:s.heap.get? l=some {cls:= .type "list",data:= .seq ai.toArray n}) (hf:f ai.toArray=its'.toArray) (hv:Vals ys its') (hz:ys.length<=sizeLine):
  Inv X pins σ (upd H l (.lst ys)) {s with heap:=s.heap.update l (Obj.mapSeq f),toks:=t'}:=by
 have q:=PySem.IsL.update e f;rw[hf]at q;refine I.write (x:=l) (e:=l) (by rw[hH];exact trivial) (.inl U) (λb' u hb hu=>(Heap.get?_update_other s.heap (Obj.mapSeq f) (Ne.symm hb)).trans hu) ⟨_,q⟩ ?_;exact⟨hz,its',_,hv,q⟩
theorem Inv.TX{ai:List Value}{t':Nat}(I:Inv X pins σ H s)(hv:Vals ys ai)(hz:ys.length<=sizeLine):
  Inv X pins σ (upd H s.heap.objs.size (.lst ys)) {s with heap:=s.heap.push {cls:= .type "list",data:= .seq ai.toArray},toks:=t'}:=
 I.laid (λ_ _ q=>Heap.get?_push_of_some _ q) (aM _) ⟨hz,ai,0,hv,Heap.get?_push_size _ U⟩
theorem Inv.fresh(I:Inv X pins σ H s):H s.heap.objs.size=none:=I.aK.fresh (aM _)
theorem Inv.t8(I:Inv X pins σ H s)(hH:H l=some (.lst xs)):xs.length<=sizeLine/\ ∃(ai:List Value) (n:Nat),Vals xs ai/\ xs.length=ai.length/\ s.heap.get? l=some {cls:= .type "list",data:= .seq ai.toArray n}:=by obtain⟨z,ai,n,r,e⟩:=I.aK l _ hH;exact⟨z,ai,n,r,r.length,e⟩
theorem TY{n:Nat}(h:n<=sizeLine):Builtin.List.listTooLong n=false:=by unfold Builtin.List.listTooLong;exact decide_eq_false (by omega)
end
section
variable{X:Cx}
def TZ:V->List V->Hp->VK->Prop:=λx vs H Q=>∃l xs y,x= .ref l/\ vs=[y]/\ H l=some (.lst xs)/\ xs.length<sizeLine/\ Q .aO (upd H l (.lst (xs++[y])))
theorem T1:De X "list.append" TZ:=by intro pins s σ H x vs v us Q I rx rv h;obtain⟨l,xs,y,rfl,rfl,hH,hz,q⟩:=h;cases rx;obtain⟨u,rfl,ru⟩:=rv.one;obtain⟨z,ai,n,r,hl,e⟩:=I.t8 hH;refine call_meets F.slot_list_append ⟨_,e,U⟩ F.entry_list_append (F.args_list_append_2 _ _) (PySem.list_append l ai.toArray n u (by rw[dJ];omega)) ⟨e,?_⟩;refine⟨.aO,_,I.Df (its':=ai++[u]) hH e (by simp) (r.append (.cons ru .nil)) ?_,U,q⟩;rw[bL,List.length_singleton];omega
def T2:V->List V->Hp->VK->Prop:=λx vs H Q=>∃l b xs zs,x= .ref l/\ vs=[.ref b]/\ H l=some (.lst xs)/\ H b=some (.lst zs)/\ xs.length+zs.length<=sizeLine/\ Q .aO (upd H l (.lst (xs++zs)))
theorem zt:De X "list.extend" T2:=by
 intro pins s σ H x vs v us Q I rx rv h;obtain⟨l,b,xs,zs,rfl,rfl,hH,hB,hz,q⟩:=h;cases rx;obtain⟨u,rfl,ru⟩:=rv.one;cases ru;obtain⟨z,ai,n,r,hl,e⟩:=I.t8 hH;obtain⟨z2,its2,n2,r2,fh,e2⟩:=I.t8 hB;have hsz:ai.toArray.size+its2.toArray.size<=sizeLine:=by rw[dJ,dJ];omega
 have hlong:¬(!ai.toArray.isEmpty&&Builtin.List.listTooLong (ai.toArray.size+its2.toArray.size))=true:=by rw[TY hsz,n_];exact fL
 refine call_meets F.slot_list_extend ⟨_,e,U⟩ F.entry_list_extend (F.args_list_extend_2 _ _)
  (AutoSeq1.list_extend_list_list_0 l ai.toArray n b its2.toArray n2 hlong (by rw[dJ];omega) (by omega)) ⟨e,e2,?_⟩
 refine⟨.aO,_,I.Df (its':=ai++its2) hH e (by simp) (r.append r2) ?_,U,q⟩;rw[bL];omega
def T3:V->List V->Hp->VK->Prop:=λx vs H Q=>∃l xs y,x= .ref l/\ vs=[]/\ H l=some (.lst xs)/\ xs[xs.length-1]? =some y/\ Q y (upd H l (.lst xs.dropLast))
theorem oK:De X "list.pop" T3:=by
 intro pins s σ H x vs v us Q I rx rv h;obtain⟨l,xs,y,rfl,rfl,hH,hy,q⟩:=h;cases rx;have zu:=rv.zero;subst zu;obtain⟨z,ai,n,r,hl,e⟩:=I.t8 hH;obtain⟨u,hu,ru⟩:=r.get hy;have kZ:ai.toArray[ai.toArray.size-1]? =some u:=by show ai.toArray[ai.length-1]? =some u;rw[<-Array.getElem?_toList,<-hl];exact hu
 refine call_meets F.slot_list_pop ⟨_,e,U⟩ F.entry_list_pop (F.args_list_pop_1 _) (MeetsSeq.list_pop_last l ai.toArray n u kZ (by rw[dJ];omega)) ⟨e,?_⟩;refine⟨y,_,I.Df (its':=ai.dropLast) hH e ?_ r.dropLast ?_,ru,q⟩
 ·show ai.toArray.eraseIdxIfInBounds (ai.toArray.size-1)=ai.dropLast.toArray
  rw[dJ,List.eraseIdxIfInBounds_toArray,TV]
 ·rw[List.length_dropLast]
  omega
def rQ:R2:=λx y H Q=>∃l b xs zs,x= .ref l/\ y= .ref b/\ H l=some (.lst xs)/\ H b=some (.lst zs)/\ xs.length+zs.length<=sizeLine/\ ∀p,H p=none->Q (.ref p) (upd H p (.lst (xs++zs)))
theorem gz:dN X (binaryOp .Add) rQ:=by
 intro pins s σ H x y v u Q I rx ry h;obtain⟨l,b,xs,zs,rfl,rfl,hH,hB,hz,q⟩:=h;cases rx;cases ry;obtain⟨z,ai,n,r,hl,e⟩:=I.t8 hH;obtain⟨z2,its2,n2,r2,fh,e2⟩:=I.t8 hB;refine PySem.P.add_list e e2 ?_ (by rw[dJ,dJ];omega);have ea:ai.toArray++its2.toArray=(ai++its2).toArray:=by simp
 rw[ea];exact⟨.ref _,_,I.TX (t':=s.toks) (r.append r2) (by rw[bL];omega),U,q _ I.fresh⟩
end
section
variable{prog:Program}{w:World}{A:Around}{E:Value->Shared->Prop}{s:Shared}
set_option maxRecDepth 100000 in
end
section
variable{X:Cx}
end
end L2
namespace L2
open PySem PySem.Spec PyProof.Rows
theorem Vals.KD:∀{bs:List Bool} {us:List Value},Vals (bs.map V.bl) us->us=bs.map Value.bool
 |[],us,h=>by rw[pG]at h;cases h;rfl
 |b::bs,us,h=>by
  rw[da]at h;cases h with
  |cons r t=>
   cases r;rw[Vals.KD t,da]
theorem Vals.T4{a:Addr}{us:List Value}(r:Vals [V.ref a] us):us=[Value.ref a]:=by
 cases r with
 |cons r t=>
  cases t;cases r;rfl
section
variable{prog:Program}{w:World}{A:Around}{E:Value->Shared->Prop}{s:Shared}{l:Addr}{ai:List Value}{ns:List Int}{Q:Value->Shared->Prop}
end
section
variable{X:Cx}
end
section
variable{X:Cx}
end
section
variable{X:Cx}
end
theorem T5{prog:Program}{w:World}{A:Around}{E:Value->Shared->Prop}{s:Shared}{l:Addr}{items:Array Value}{Q:Value->Shared->Prop}(hl:s.heap.IsList l items)
  (h:∀s₂:Shared,s₂={s with heap:=s.heap.push {cls:= .type "list_iterator",data:= .fields #[.ref l, .int 0 0]}}->
   (s₂.heap.IsListIter s.heap.objs.size l 0/\ s₂.heap.IsList l items)->l≠s.heap.objs.size->Q (.ref s.heap.objs.size) s₂):wpAny (model prog w) A (pyIter (.ref l)) Q E s:=by
 have aU:l<s.heap.objs.size:=by obtain⟨_,e,_⟩:=hl;exact Heap.lt_size e
 exact wpAny_pyIter_list hl (h _ U ⟨⟨_,Heap.get?_push_size _ U,U,U⟩,hl.push _⟩ (f6 aU))
theorem T6{prog:Program}{w:World}{A:Around}{bs:List Bool}{ai:List Value}(e:ai=bs.map Value.bool):
  TruthOf prog w A (λi v=>ai.toArray[i]? =some v) (λi=>bs.getD i false):=λi v s Q E hv hq=>by
 have t6:ai[i]? =some v:=by simpa using hv
 rw[e,ez]at t6;obtain⟨b,hb,rfl⟩:=eu.mp t6;have hg:bs.getD i false=b:=by rw[nZ,hb]<;>rfl
 have t7:Q (bs.getD i false) s:=hq;rw[hg]at t7;exact wpAny_truthy_bool t7
theorem all_range:∀bs:List Bool,(List.range bs.length).all (λi=>bs.getD i false)=bs.all id
 |[]=>rfl
 |b::bs=>by
  rw[aX,List.range_succ_eq_map,iB,List.all_map,iB,<-all_range bs]
  all_goals rfl
section
variable{X:Cx}
def T7(K:PySem.W.Frag):List V->Hp->VK->Prop:=λvs H Q=>∃(a:Addr) (bs:List Bool),vs=[V.ref a]/\ ab K H a (bs.map V.bl)/\ Q (.bl (bs.all id)) H
theorem Dg(hc:X.calm=true):jD X (.builtin "all") (T7 X.K):=by
 intro pins s σ H vs us Q I r h;obtain⟨a,bs,rfl,hs,q⟩:=h;obtain⟨ai,rv,hl,_⟩:=I.list hs;rw[Vals.T4 r];have hb:=rv.KD;refine call_all_walk (T5 hl.isList λs₂ e2 st b8=>?_);subst e2;refine⟨_,_,_,_,_,_,_,U,Walks.list (A:=X.A.in1) (I.ok.hd hc) _ a b8 ai.toArray,st,T6 hb,λh' tk hk=>?_⟩;refine⟨.bl _,H,I.kept λb o eo=>hk b o (λDh=>?_) (Heap.get?_push_of_some _ eo),?_,q⟩
 ·rcases a_.mp Dh with e1|Dh
  ·exact absurd (e1▸Heap.lt_size eo) (kJ _)
  ·cases Dh
 ·show Value.bool _=Value.bool _
  rw[<-all_range,hb,dJ,aI]
end
mutual
inductive Dp(K:PySem.W.Frag)(H:Hp):V->PyData->Prop
 |aO:Dp K H .aO .none
 |bl (b:Bool):Dp K H (.bl b) (.bool b)
 |int (i:Int):Dp K H (.int i) (.int i)
 |str (x:Str):Dp K H (.str x) (.str x)
 |lst {a:Addr} {xs:List V} {ds:List PyData}:ab K H a xs->oM K H xs ds->Dp K H (.ref a) (.list ds)
 |tup {a:Addr} {xs:List V} {ds:List PyData}:bz K H a xs->oM K H xs ds->Dp K H (.ref a) (.tuple ds)
inductive oM(K:PySem.W.Frag)(H:Hp):List V->List PyData->Prop
 |nil:oM K H [] []
 |cons {v:V} {vs:List V} {d:PyData} {ds:List PyData}:Dp K H v d->oM K H vs ds->oM K H (v::vs) (d::ds)
end
section
variable{X:Cx}{pins:List (Addr×Obj)}{σ:St}{H:Hp}{s:Shared}
mutual
theorem Dp.reads(I:Inv X pins σ H s):∀(d:PyData) (v:V) (u:Value),Dp X.K H v d->RelV v u->∃as,Reads s.heap u d as
 | .none,_,_,h,r=>by
  cases h;cases r;exact⟨_,Reads.none⟩
 | .bool b,_,_,h,r=>by
  cases h;cases r;exact⟨_,Reads.bool b⟩
 | .int i,_,_,h,r=>by
  cases h;obtain⟨t,rfl⟩:=r;exact⟨_,Reads.int i t⟩
 | .str x,_,_,h,r=>by
  cases h;obtain⟨t,rfl⟩:=r;exact⟨_,Reads.str x t⟩
 | .list ds,_,_,h,r=>by
  cases h with
  |lst hs ha=>
   cases r;obtain⟨ai,rv,⟨o,n,ho,hc,_,hd⟩,_⟩:=I.list hs;obtain⟨as,hr⟩:=Dp.readsAll I ds _ ai ha rv;exact⟨_,Reads.list ho hc hd hr⟩
 | .tuple ds,_,_,h,r=>by
  cases h with
  |tup hs ha=>
   cases r;obtain⟨ai,rv,⟨o,ho,hc,n,hd⟩,_⟩:=I.tuple hs;obtain⟨as,hr⟩:=Dp.readsAll I ds _ ai ha rv;exact⟨_,Reads.tuple ho hc hd hr⟩
 | .dict _,_,_,h,_=>by cases h
theorem Dp.readsAll(I:Inv X pins σ H s):∀(ds:List PyData) (vs:List V) (us:List Value),oM X.K H vs ds->Vals vs us->∃as,ReadsAll s.heap us ds as
 |[],_,_,h,r=>by
  cases h;cases r;exact⟨_,ReadsAll.nil⟩
 |d::ds,_,_,h,r=>by
  cases h with
  |cons h1 h2=>
   cases r with
   |cons r1 r2=>obtain⟨as,q1⟩:=Dp.reads I d _ _ h1 r1;obtain⟨bs,q2⟩:=Dp.readsAll I ds _ _ h2 r2;exact⟨_,ReadsAll.cons q1 q2⟩
end
end
section
variable{X:Cx}
def T8(K:PySem.W.Frag):R2:=λx y H Q=>∃d e,Dp K H x d/\ Dp K H y e/\ SeqAt.shaped d=true/\ SeqAt.shaped e=true/\ Q (.bl (PyData.eqv d e)) H
def T9(K:PySem.W.Frag):R2:=λx y H Q=>∃d e,Dp K H x d/\ Dp K H y e/\ SeqAt.shaped d=true/\ SeqAt.shaped e=true/\ Q (.bl (!PyData.eqv d e)) H
theorem mh(hu:X.A.units+64<cLine):dN X (compareOp .Eq) (T8 X.K):=by intro pins s σ H x y v u Q I rx ry h;obtain⟨d,e,hd,he,sd,se,q⟩:=h;obtain⟨as,r1⟩:=Dp.reads I d x v hd rx;obtain⟨bs,r2⟩:=Dp.reads I e y u he ry;exact SeqAt.compareEq_shaped r1 r2 sd se hu ⟨.bl _,H,I,U,q⟩
theorem Di(hu:X.A.units+64<cLine):dN X (compareOp .NotEq) (T9 X.K):=by intro pins s σ H x y v u Q I rx ry h;obtain⟨d,e,hd,he,sd,se,q⟩:=h;obtain⟨as,r1⟩:=Dp.reads I d x v hd rx;obtain⟨bs,r2⟩:=Dp.reads I e y u he ry;exact SeqAt.compareNe_shaped r1 r2 sd se hu ⟨.bl _,H,I,U,q⟩
end
end L2
namespace L2
open PySem PySem.Spec PyProof.Rows
abbrev KG(h:Heap)(c:Addr)(v:Option Value):Prop:=h.IsCell c v
def T_(scope sc:Scope):Scope:={scope with names:=scope.names.map λ(n,k)=>if(k== .free&&sc.kind== .function&&sc.names.lookup n==some .cell)then(n, .cell)else(n,k)}
def fV(cells:List (Str×Addr)):List (Str×NameKind)->List (Str×Addr)->List (Str×Addr)
 |[],acc=>acc
 |(n,k)::r,acc=>if k== .free then fV cells r ((n,(cells.lookup n).getD 0)::acc)else fV cells r acc
theorem KH(env:Env)(f:Str×NameKind->List (Str×Addr)->Sem (ForInStep (List (Str×Addr))))
  (hf:∀n k c,f (n,k) c=if k== .free then(do let a<-cellOf env n;pure (.yield ((n,a)::c)))else pure (.yield c)):
  ∀(names:List (Str×NameKind)) (acc:List (Str×Addr)),(∀y∈names,y.2= .free->∃c,env.cells.lookup y.1=some c)->forIn names acc f=pure (fV env.cells names acc)
 |[],acc,_=>by rw[List.forIn_nil];rfl
 |(n,k)::r,acc,h=>by
  rw[List.forIn_cons,hf];have ih:=λacc=>KH env f hf r acc λy hy=>h y (fe _ hy);unfold fV;by_cases hk:(k==NameKind.free)=true
  ·rw[if_pos hk,if_pos hk]
   obtain⟨c,hc⟩:=h (n,k) gC (by simpa using hk);have e:cellOf env n=pure c:=by unfold cellOf;rw[hc]
   rw[e];have e2:(env.cells.lookup n).getD 0=c:=by rw[hc];rfl
   rw[e2];exact ih _
  ·rw[if_neg hk,if_neg hk]
   exact ih _
theorem T'{scope:Scope}{env:Env}(h:∀y∈scope.names,y.2= .free->∃c,env.cells.lookup y.1=some c):closureFor scope env=pure (fV env.cells scope.names []):=by simp only[closureFor];rw[KH env _ (λn k c=>rfl) scope.names [] h];rfl
theorem mem_lookup{α:Type}:∀{l:List (Str×α)} {n:Str} {c:α},(n,c)∈l->∃c',l.lookup n=some c'
 |(k,v)::r,n,c,h=>by
  rw[qP];cases hb:n==k with
  |true=>exact⟨_,U⟩
  |false=>
   rcases a_.mp h with e|h
   ·cases e;simp at hb
   ·exact mem_lookup h
theorem zw{cells:List (Str×Addr)}:∀{names:List (Str×NameKind)} {acc:List (Str×Addr)} {n:Str} {c:Addr},(n,c)∈fV cells names acc->(n,c)∈acc\/((n, .free)∈names/\ c=(cells.lookup n).getD 0)
 |[],_,_,_,h=> .inl h
 |(m,k)::r,acc,n,c,h=>by
  unfold fV at h;split at h
  ·rename_i hk
   have hk:k= .free:=by simpa using hk
   rcases zw h with h|⟨h1,h2⟩
   ·rcases a_.mp h with e|h
    ·cases e;exact .inr ⟨hk▸gC,U⟩
    ·exact .inl h
   ·exact .inr ⟨fe _ h1,h2⟩
  ·rcases zw h with h|⟨h1,h2⟩
   ·exact .inl h
   ·exact .inr ⟨fe _ h1,h2⟩
theorem Dj{cells:List (Str×Addr)}:∀{names:List (Str×NameKind)} {acc:List (Str×Addr)} {p:Str×Addr},p∈acc->p∈fV cells names acc
 |[],_,_,h=>h
 |(m,k)::r,acc,p,h=>by
  unfold fV;split
  ·exact Dj (fe _ h)
  ·exact Dj h
theorem Dk{cells:List (Str×Addr)}:∀{names:List (Str×NameKind)} {acc:List (Str×Addr)} {n:Str},(n, .free)∈names->(n,(cells.lookup n).getD 0)∈fV cells names acc
 |(m,k)::r,acc,n,h=>by
  unfold fV;rcases a_.mp h with e|h
  ·cases e
   exact Dj gC
  ·split
   ·exact Dk h
   ·exact Dk h
theorem wc:∀{names:List (Str×NameKind)} {h:Heap} {acc:List (Str×Addr)} {x:Str} {c:Addr},(x,c)∈cellsFrom h.objs.size names acc->
  (x,c)∈acc\/((x, .cell)∈names/\ h.objs.size<=c/\ KG (pushCells h names) c none)
 |[],_,_,_,_,h=> .inl h
 |(n,k)::r,h,acc,x,c,hm=>by
  unfold cellsFrom at hm;unfold pushCells;split at hm
  ·rename_i hk
   rw[if_pos hk];have hk:k= .cell:=by simpa using hk
   rw[<-Heap.size_push h {cls:= .type "cell",data:= .cell none}]at hm;rcases wc hm with hm|⟨h1,h2,h3⟩
   ·rcases a_.mp hm with e|hm
    ·cases e
     exact .inr ⟨hk▸gC,aM _,_,pushCells_keeps r _ _ _ (Heap.get?_push_size _ U),U⟩
    ·exact .inl hm
   ·rw[Heap.size_push]at h2
    exact .inr ⟨fe _ h1,ya h2,h3⟩
  ·rename_i hk
   rw[if_neg hk];rcases wc hm with hm|⟨h1,h2,h3⟩
   ·exact .inl hm
   ·exact .inr ⟨fe _ h1,h2,h3⟩
theorem zx:∀{names:List (Str×NameKind)} {n:Nat} {acc:List (Str×Addr)} {p:Str×Addr},p∈acc->p∈cellsFrom n names acc
 |[],_,_,_,h=>h
 |(m,k)::r,n,acc,p,h=>by
  unfold cellsFrom;split
  ·exact zx (fe _ h)
  ·exact zx h
theorem Dl:∀{names:List (Str×NameKind)} {n:Nat} {acc:List (Str×Addr)} {x:Str},(x, .cell)∈names->∃c,(x,c)∈cellsFrom n names acc
 |(m,k)::r,n,acc,x,h=>by
  unfold cellsFrom;rcases a_.mp h with e|h
  ·cases e
   exact⟨n,zx gC⟩
  ·split
   ·exact Dl h
   ·exact Dl h
theorem Dm:∀{names:List (Str×NameKind)} {h:Heap} {acc:List (Str×Addr)} {x y:Str} {c:Addr},(∀p∈acc,p.2<h.objs.size)->(∀x y c,(x,c)∈acc->(y,c)∈acc->x=y)->
  (x,c)∈cellsFrom h.objs.size names acc->(y,c)∈cellsFrom h.objs.size names acc->x=y
 |[],_,_,_,_,_,_,hi,h1,h2=>hi _ _ _ h1 h2
 |(n,k)::r,h,acc,x,y,c,hl,hi,h1,h2=>by
  unfold cellsFrom at h1 h2;split at h1
  ·rename_i hk
   rw[if_pos hk]at h2;rw[<-Heap.size_push h {cls:= .type "cell",data:= .cell none}]at h1 h2;refine Dm (h:=h.push _) (λp hp=>?_) (λx y c a b=>?_) h1 h2
   ·rw[Heap.size_push]
    rcases a_.mp hp with rfl|hp
    ·exact Bv _
    ·exact Bx (hl p hp)
   ·rcases a_.mp a with e|a<;>rcases a_.mp b with e'|b
    ·cases e;cases e';rfl
    ·cases e;exact absurd (hl _ b) (kJ _)
    ·cases e';exact absurd (hl _ a) (kJ _)
    ·exact hi _ _ _ a b
  ·rename_i hk
   rw[if_neg hk]at h2;exact Dm hl hi h1 h2
theorem Ua{M:Model}{A:Around}{E:Value->Shared->Prop}{s:Shared}{scope:Scope}{globals:Addr}{closure:List (Str×Addr)}{qual:Str}{func:Option Addr}{code:Value}{around:Env}{builtins:Addr}{Q:Env->Shared->Prop}
  (h:Q (newEnv scope s.heap.objs.size globals (cellsFrom (s.heap.objs.size+1) scope.names closure) qual func code (some around) builtins)
   {s with heap:=pushCells (s.heap.push {cls:= .type "dict",data:= .dict #[]}) scope.names}):
  wpAny M A (newFunctionEnv scope globals closure [] qual func code (some around) builtins) Q E s:=by
 simp only[newFunctionEnv,Option.isSome_some,if_true];refine wpAny_bind (wpAny_alloc ?_);refine wpAny_bind (wpAny_layCells _ (λn k c=>rfl) scope.names closure _ _ ?_);rw[show({s with heap:=s.heap.push {cls:= .type "dict",data:= .dict #[]}}:Shared).heap.objs.size=s.heap.objs.size+1 from Heap.size_push ..];rw[List.forIn_nil];exact wpAny_bind (wpAny_pure (wpAny_pure h))
theorem Dn{sc:Scope}:∀{names:List (Str×NameKind)} {x:Str} {k:NameKind},
  (names.map λ(n,k)=>if(k==NameKind.free&&sc.kind== .function&&sc.names.lookup n==some .cell)then(n,NameKind.cell)else(n,k)).lookup x=some k->
  ∃k',names.lookup x=some k'/\ (k=k'\/(k'= .free/\ k= .cell))
 |[],_,_,h=>by simp at h
 |(n,k₀)::r,x,k,h=>by
  have ih:= @Dn sc r x k;have h':List.lookup x ((if(k₀==NameKind.free&&sc.kind== .function&&sc.names.lookup n==some .cell)=true then(n,NameKind.cell)else(n,k₀))::(r.map _))=some k:=h;cases hx:x==n with
  |true=>
   simp only[qP,hx];by_cases hc:(k₀==NameKind.free&&sc.kind== .function&&sc.names.lookup n==some .cell)=true
   ·rw[if_pos hc]at h'
    simp only[qP,hx]at h';cases h';simp only[bb,beq_iff_eq]at hc;exact⟨k₀,U, .inr ⟨hc.1.1,U⟩⟩
   ·rw[if_neg hc]at h'
    simp only[qP,hx]at h';cases h';exact⟨_,U, .inl U⟩
  |false=>
   simp only[qP,hx];by_cases hc:(k₀==NameKind.free&&sc.kind== .function&&sc.names.lookup n==some .cell)=true
   ·rw[if_pos hc]at h'
    simp only[qP,hx]at h';exact ih h'
   ·rw[if_neg hc]at h'
    simp only[qP,hx]at h';exact ih h'
structure wd(N:List Str)(sc scope:Scope)(own:List (Str×Nat)):Prop where
 kind:scope.kind= .function
 uniq:∀y∈scope.names,scope.names.lookup y.1=some y.2
 ix:∀p∈own,N[p.2]? =some p.1
 free:∀y∈scope.names,y.2= .free->sc.names.lookup y.1=some .cell\/sc.names.lookup y.1=some .free
 own:∀y∈scope.names,y.2= .local\/y.2= .cell->y.1∈own.map (·.1)\/y.1∉N
def wipe(σ:St):List Nat->St
 |[]=>σ
 |v::vs=>(wipe σ vs).set v none
theorem Dq(σ:St):∀vs:List Nat,(wipe σ vs).length=σ.length
 |[]=>rfl
 |v::vs=>by unfold wipe;rw[sU,Dq σ vs]
theorem Dr{σ:St}{i:Nat}{x:V}:∀{vs:List Nat},(wipe σ vs)[i]? =some (some x)->σ[i]? =some (some x)/\ i∉vs
 |[],h=>⟨h,by simp⟩
 |v::vs,h=>by
  unfold wipe at h;by_cases hi:v=i
  ·subst hi
   by_cases hv:v<(wipe σ vs).length
   ·rw[n0 hv]at h;cases h
   ·rw[jQ (by simpa using hv)]at h;cases h
  ·rw[mU hi]at h
   obtain⟨h1,h2⟩:=Dr h;exact⟨h1,by simp only[a_,not_or];exact⟨λe=>hi e.symm,h2⟩⟩
abbrev Cx.bX(X:Cx)(s:Shared)(H:Hp)(scope:Scope)(cenv:Env)(fp:List Addr):Cx:={X with gd:=s,vJ:=H,env:=cenv,outer:=X.stack,ex:=fp,fn:=λx=>scope.names.lookup x==some .cell,pn:=[],xe:=λ_ _=>False}
section
variable{X:Cx}{pins:List (Addr×Obj)}{σ:St}{H:Hp}{s:Shared}
theorem Ub{scope:Scope}{own:List (Str×Nat)}{fp:List Addr}(I:Inv X pins σ H s)(ok:wd X.N X.env.scope scope own)(hN:X.N.Nodup)(t9:∀b∈fp,j5 X pins H b/\ b<s.heap.objs.size):
  Inv (X.bX s H scope (compEnvC scope (cellsFrom (s.heap.objs.size+1) scope.names (fV X.env.cells scope.names [])) s.heap.objs.size X.env) fp) [] (wipe σ (own.map (·.2))) H {s with heap:=pushCells (s.heap.push {cls:= .type "dict",data:= .dict #[]}) scope.names}:=by
 have hfree:∀y∈scope.names,y.2= .free->∃c,X.env.cells.lookup y.1=some c:=λy hy e=>by
  rcases ok.free y hy e with k|k
  ·exact I.ok.has _ (.inl k)
  ·exact I.ok.has _ (.inr k)
 generalize hcenv:compEnvC scope (cellsFrom (s.heap.objs.size+1) scope.names (fV X.env.cells scope.names [])) s.heap.objs.size X.env=cenv;have kp:∀b o,s.heap.get? b=some o->(pushCells (s.heap.push {cls:= .type "dict",data:= .dict #[]}) scope.names).get? b=some o:=λb o e=>pushCells_keeps _ _ _ _ (Heap.get?_push_of_some _ e);have hL:cenv.locals=s.heap.objs.size:=by rw[<-hcenv];rfl
 have bD:cenv.cells=cellsFrom (s.heap.objs.size+1) scope.names (fV X.env.cells scope.names []):=by rw[<-hcenv];rfl
 have Ds:cenv.scope=T_ scope X.env.scope:=by rw[<-hcenv];rfl
 rw[<-Heap.size_push s.heap {cls:= .type "dict",data:= .dict #[]}]at bD;have cm:∀{y c},(y,c)∈fV X.env.cells scope.names []->X.env.cells.lookup y=some c/\ c<s.heap.objs.size:=λ{y c} hm=>by
  rcases zw hm with hm|⟨h1,rfl⟩
  ·cases hm
  ·obtain⟨c,hc⟩:=hfree _ h1 U
   rw[hc];obtain⟨w,z⟩:=I.cell _ _ hc;exact⟨U,z.lt⟩
 have mem:∀{y c},cenv.cells.lookup y=some c->(X.env.cells.lookup y=some c/\ c<s.heap.objs.size)\/(s.heap.objs.size+1<=c/\ KG (pushCells (s.heap.push {cls:= .type "dict",data:= .dict #[]}) scope.names) c none):=λ{y c} e=>by
  rw[bD]at e;rcases wc (PySem.mem_of_lookup e)with hm|⟨_,h2,h3⟩
  ·exact .inl (cm hm)
  ·rw[Heap.size_push]at h2;exact .inr ⟨h2,h3⟩
 have look:∀{y},scope.names.lookup y=some .free->∃c,cenv.cells.lookup y=some c/\ X.env.cells.lookup y=some c:=λ{y} hl=>by
  have hy:(y,NameKind.free)∈scope.names:=PySem.mem_of_lookup hl;obtain⟨c',e'⟩:=mem_lookup (zx (names:=scope.names) (n:=(s.heap.push {cls:= .type "dict",data:= .dict #[]}).objs.size) (Dk (cells:=X.env.cells) (acc:=[]) hy));rw[<-bD]at e';refine⟨c',e',?_⟩;rw[bD]at e';rcases wc (PySem.mem_of_lookup e')with hm|⟨h1,_,_⟩
  ·exact(cm hm).1
  ·have:=ok.uniq _ h1
   rw[hl]at this;cases this
 have okB:(X.bX s H scope cenv fp).Ok:=by
  refine⟨I.ok.mod,by show cenv.scope.kind=_;rw[Ds];exact ok.kind,by show cenv.globals=_;rw[<-hcenv];exact I.ok.glob,by show cenv.builtins=_;rw[<-hcenv];exact I.ok.blt,by show s.heap.objs.size<=cenv.locals;rw[hL];exact aM _,
   λy z c e1 e2=>?_,λy hy=>?_,λy c z e=>?_,I.ok.hd,I.ok.frames, .inl U,λb hb=>⟨?_,λy c e z=>?_⟩,I.bs,cO I.ok.lY I.sz,λb o e hb=>?_,λb hb z=>?_,I.stack,I.JP⟩
  ·have e1:cenv.cells.lookup y=some c:=e1
   have e2:cenv.cells.lookup z=some c:=e2;rw[bD]at e1 e2;refine Dm (λp hp=>?_) (λy z c a b=>I.ok.inj y z c (cm a).1 (cm b).1) (PySem.mem_of_lookup e1) (PySem.mem_of_lookup e2);rw[Heap.size_push];exact Bx (cm (y:=p.1) (c:=p.2) hp).2
  ·show∃c,cenv.cells.lookup y=some c
   have key:∀k,cenv.kindOf y=some k->(k= .cell\/k= .free)->∃c,cenv.cells.lookup y=some c:=λk hk zy=>by
    unfold Env.kindOf at hk;rw[Ds]at hk;obtain⟨k',e,r⟩:=Dn hk;have:k'= .cell\/k'= .free:=by
     rcases r with rfl|⟨rfl,_⟩
     ·exact zy
     ·exact .inr U
    rcases this with rfl|rfl
    ·obtain⟨c,hm⟩:=Dl (n:=(s.heap.push {cls:= .type "dict",data:= .dict #[]}).objs.size) (acc:=fV X.env.cells scope.names []) (PySem.mem_of_lookup e)
     obtain⟨c',e'⟩:=mem_lookup hm;exact⟨c',by rw[bD];exact e'⟩
    ·obtain⟨c,h1,_⟩:=look e
     exact⟨c,h1⟩
   rcases hy with hy|hy
   ·exact key _ hy (.inl U)
   ·exact key _ hy (.inr U)
  ·have z:(scope.names.lookup y==some NameKind.cell)=true:=z
   have z:scope.names.lookup y=some .cell:=by simpa using z
   have e:cenv.cells.lookup y=some c:=e;rw[bD]at e;rcases wc (PySem.mem_of_lookup e)with hm|⟨_,h2,_⟩
   ·rcases zw hm with hm|⟨h1,_⟩
    ·cases hm
    ·have q:=ok.uniq _ h1
     rw[z]at q;cases q
   ·rw[Heap.size_push]at h2
    exact ya h2
  ·show b≠cenv.locals
   rw[hL];exact f6 (t9 b hb).2
  ·have e:cenv.cells.lookup y=some c:=e
   rcases mem e with⟨h1,_⟩|⟨h1,_⟩
   ·exact(t9 b hb).1.2.2.2.2.1 y c h1 z
   ·have h2:s.heap.objs.size+1<=b:=by rw[<-z];exact h1
    exact absurd (gT (t9 b hb).2 (ya h2)) (kJ _)
  ·rcases(t9 b hb).1.2.2.2.1 with z|z
   ·exact I.ok.vL b o e z
   ·exact absurd (gT (Heap.lt_size e) (cO I.ok.lY z)) (kJ _)
  ·rcases a_.mp (I.CD b z)with z|z
   ·exact(t9 b hb).1.2.1 z
   ·exact(t9 b hb).1.2.2.1 z
 refine⟨okB,U,I.bare,Un.kept kp,⟨λ_=>none,?_,λi y av e1 e2 e3=>?_⟩,λy c e=>?_,?_,λy c e=>?_,λp hp=>?_,I.aK.kept kp,by rw[Dq];exact I.len⟩
 ·show Heap.Ns _ cenv.locals _
  rw[hL];exact Heap.Ns.keeps (Heap.Ns.new ..) λb o e=>pushCells_keeps _ _ _ _ e
 ·obtain⟨e2,b8⟩:=Dr e2
  have zz:scope.names.lookup y=some .free/\ (cenv.kindOf y=some .cell\/cenv.kindOf y=some .free):=by
   have key:∀k,cenv.scope.names.lookup y=some k->k= .local\/k= .cell\/k= .free->scope.names.lookup y=some .free/\ (cenv.kindOf y=some .cell\/cenv.kindOf y=some .free):=λk hk zy=>by
    have Dt:=hk;rw[Ds]at hk;obtain⟨k',e,r⟩:=Dn hk;have no:¬(k'= .local\/k'= .cell):=λhh=>by
     rcases ok.own _ (PySem.mem_of_lookup e) hh with e'|e'
     ·obtain⟨p,hp,Uc⟩:=c9.mp e'
      have e3:=ok.ix p hp;have:p.1=y:=Uc;rw[this]at e3;exact b8 (c9.mpr ⟨p,hp,CH hN e3 e1⟩)
     ·exact e' (bC e1)
    rcases r with rfl|⟨rfl,rfl⟩
    ·rcases zy with rfl|rfl|rfl
     ·exact absurd (.inl U) no
     ·exact absurd (.inr U) no
     ·exact⟨e, .inr Dt⟩
    ·exact⟨e, .inl Dt⟩
   have e3:tR cenv.scope y:=e3;rcases e3 with e3|e3|e3
   ·exact key _ e3 (.inl U)
   ·exact key _ e3 (.inr (.inl U))
   ·exact key _ e3 (.inr (.inr U))
  obtain⟨m,hn,hl⟩:=I.loc;have Ud:tR X.env.scope y:=(ok.free _ (PySem.mem_of_lookup zz.1) U).elim (λk=> .inr (.inl k)) (λk=> .inr (.inr k));obtain⟨w,r,q⟩:=hl i y av e1 e2 Ud;refine⟨w,r, .inr ⟨zz.2,?_⟩⟩;obtain⟨c,h1,h2⟩:=look zz.1;rcases q with⟨k,_⟩|⟨_,c',e',z⟩
  ·have k:X.env.scope.names.lookup y=some .local:=k
   rcases ok.free _ (PySem.mem_of_lookup zz.1) rfl with k'|k'<;>rw[show X.env.scope.names.lookup y=_ from k']at k<;>cases k
  ·rw[h2]at e';cases e'
   exact⟨c,h1,z.keeps kp⟩
 ·have e:cenv.cells.lookup y=some c:=e
  rcases mem e with⟨h1,_⟩|⟨_,z⟩
  ·obtain⟨w,z⟩:=I.cell y c h1
   exact⟨w,z.keeps kp⟩
  ·exact⟨_,z⟩
 ·show H cenv.locals=none
  rw[hL];exact I.aK.fresh (aM _)
 ·have e:cenv.cells.lookup y=some c:=e
  rcases mem e with⟨h1,_⟩|⟨h1,_⟩
  ·exact I.lZ y c h1
  ·exact I.aK.fresh (ya h1)
 ·exact absurd (show p∈([]:List (Addr×Obj))++[]from hp) (by simp)
theorem Ue{E:Value->Shared->Prop}{D:Addr}{xs:List V}{y:V}{v:Value}{Q:Value->Shared->Prop}(I:Inv X pins σ H s)(hD:H D=some (.lst xs))(hz:xs.length<sizeLine)(r:RelV y v)
  (h:∀s',Inv X pins σ (upd H D (.lst (xs++[y]))) s'->Q .none s'):wpAny (model X.prog X.w) X.A (call (.builtin "list.append") [.ref D,v]) Q E s:=by
 obtain⟨mi,ai,n,ri,e⟩:=I.aK D _ hD;have hl:=ri.length;refine append_at (hsz:=by rw[dJ];omega) e λh' sb jA=>?_;refine h {s with heap:=h'} (I.write (t':=s.toks) (by rw[hD];trivial) (.inl U) (λb u hb q=>(sb.2 b hb).trans q) ⟨_,jA⟩ ⟨by rw[bL];exact hz,ai++[v],n+1,ri.append (.cons r .nil),?_⟩);rw[jA];simp
def we(X:Cx)(ifs:List Expr)(t:TT):Prop:=
 ∀(pins:List (Addr×Obj)) (s:Shared) (σ:St) (H:Hp) (Q:Bool->Hp->Prop),Inv X pins σ H s->t σ H Q->
  wpAny (model X.prog X.w) X.A (forIn ifs true λc r=>if r=true then do let ok<-isTrue c X.env (eval c X.env);pure (ForInStep.yield ok)else pure (ForInStep.yield r)) (TP X pins σ Q) X.xe s
def KI:TT:=λ_ H Q=>Q true H
theorem oN:we X [] KI:=λ_ _ _ H _ I h=>wpAny_tests_nil ⟨H,I,h⟩
theorem wg{c:Expr}{t:TT}(h:PT X c t):we X [c] t:=λpins s σ H Q I hw=>wpAny_tests_one (h pins s σ H Q I hw)
end
theorem t_{α:Type}{t:Sem α}{Q Q':α->Shared->Prop}{M:Model}{A:Around}{E:Value->Shared->Prop}{s:Shared}(h:wpAny M A t Q (λ_ _=>False) s)(hQ:∀a s,Q a s->Q' a s):wpAny M A t Q' E s:=wpAny_mono h hQ λ_ _ z=>False.elim z
theorem Ug{prog:Program}{w:World}{A:Around}{R:Result->Shared->Prop}{s:Shared}{elt target iter:Expr}{ifs:List Expr}{scope:Scope}{pos:Pos}{it acc:Value}{env:Env}(I:Nat->Shared->Prop)
  (turn:∀n s,I n s->wpAny (model prog w) A (pyNext it) (λr s₁=>match r with
   |none=>R (.ok .next) s₁
   |some v=>wpAny (model prog w) A (letOwnedTupleGo target it v) (λ_ s₁'=>wpAny (model prog w) A (assign target env v) (λ_ s₂=>
     wpAny (model prog w) A (forIn ifs true λc r=>if r=true then do let ok<-isTrue c env (eval c env);pure (ForInStep.yield ok)else pure (ForInStep.yield r)) (λok s₃=>
      if ok=true then wpAny (model prog w) A (eval elt env) (λx s₄=>wpAny (model prog w) A (call (.builtin "list.append") [acc,x]) (λ_ s₅=>∃m,m<n/\ I m s₅) (notedBy (model prog w) A env λe s'=>R (.error e) s') s₄) (notedBy (model prog w) A env λe s'=>R (.error e) s') s₃
      else∃m,m<n/\ I m s₃) (notedBy (model prog w) A env λe s'=>R (.error e) s') s₂) (notedBy (model prog w) A env λe s'=>R (.error e) s') s₁') (notedBy (model prog w) A env λe s'=>R (.error e) s') s₁) (notedBy (model prog w) A env λe s'=>R (.error e) s') s)
  (n:Nat) (h:I n s):
  codeAny (model prog w) A (.compLoop (.ListComp elt [⟨target,iter,ifs,0⟩] scope pos) 0 it acc env) R s:=by
 refine codeAny_loop U I (λn s hI=>?_) n h;show wpAny _ A ((compTurn (.ListComp elt [⟨target,iter,ifs,0⟩] scope pos) 0 it acc env).onRaise (λx=>do noteFrame x env;theTreesLotGoes x)) _ _ s;refine wpAny_noted ?_;rw[compTurn_list];refine wpAny_bind (wpAny_standAt (wpAny_bind (wpAny_mono (turn n s hI) (λr s₁ h₁=>?_) λ_ _ h'=>h')));cases r with
 |none=>exact wpAny_pure h₁
 |some v=>
  refine wpAny_bind (wpAny_mono h₁ (λ_ s₁' h₁'=>?_) λ_ _ h'=>h');refine wpAny_bind (wpAny_mono h₁' (λ_ s₂ h₂=>wpAny_bind (wpAny_mono h₂ (λok s₃ h₃=>?_) λ_ _ h'=>h')) λ_ _ h'=>h');cases ok with
  |false=>exact wpAny_pure ⟨U,h₃⟩
  |true=>exact wpAny_bind (wpAny_bind (wpAny_mono h₃ (λx s₄ h₄=>wpAny_bind (wpAny_mono h₄ (λ_ s₅ h₅=>wpAny_pure (wpAny_pure ⟨U,h₅⟩)) λ_ _ h'=>h')) λ_ _ h'=>h'))
section
variable{X:Cx}
def zA(wi:TI)(g:TG)(tt:TT)(te:TE)(vs:List Nat):TE:=λσ H Q=>wi σ H λJ H1=>∀D,H1 D=none->∃W:Nat->Nat->Hp->Prop,(∃m,W 0 m (upd H1 D (.lst [])))/\ ∀i m H,W i m H->
 (J.stop i H/\ Q (.ref D) H)\/(J.go i H/\ ∃Nx:Hp->Prop,(∀H',Nx H'->∃m',m'<m/\ W (i+1) m' H')/\ ∀x H',J.j4 i H x H'->g x (wipe σ vs) H' λσ2 H2=>wipe σ2 vs=wipe σ vs/\ tt σ2 H2 λb H3=>if b=true then te σ2 H3 λy H4=>∃acc,H4 D=some (.lst acc)/\ acc.length<sizeLine/\ Nx (upd H4 D (.lst (acc++[y])))else Nx H3)
theorem KJ{pins:List (Addr×Obj)}{s:Shared}{σ:St}{H:Hp}{Q:VK}{elt tg iter:Expr}{ifs:List Expr}{scope:Scope}{own:List (Str×Nat)}{pos pos':Pos}{wi:TI}{g:TG}{tt:TT}{te:TE}{use:Option (Value->Sem Unit)}{Qf:Value->Shared->Prop}
  (hc:X.calm=true) (hN:X.N.Nodup) (I:Inv X pins σ H s) (hi:PI X tg iter wi) (ok:wd X.N X.env.scope scope own)
  (hg:∀(s:Shared) (H:Hp) (C:Addr) (cl:List (Str×Addr)) (fp:List Addr),PG (X.bX s H scope (compEnvC scope cl C X.env) fp) tg g) (ht:∀(s:Shared) (H:Hp) (C:Addr) (cl:List (Str×Addr)) (fp:List Addr),we (X.bX s H scope (compEnvC scope cl C X.env) fp) ifs tt)
  (he:∀(s:Shared) (H:Hp) (C:Addr) (cl:List (Str×Addr)) (fp:List Addr),PE (X.bX s H scope (compEnvC scope cl C X.env) fp) elt te) (hs:∀x,foldedSetIterable iter X.env x=pure x)
  (h:zA wi g tt te (own.map (·.2)) σ H Q)
  (hRR:∀D C s' m H',Inv X pins σ H' s'->Q (.ref D) H'->s'.heap.Ns C m->j5 X pins H' C->compPost (model X.prog X.w) X.A X.xe use Qf (.ref D) C (.ok .next) s'):
  wpAny (model X.prog X.w) X.A (comprehension (.ListComp elt [⟨tg,iter,ifs,0⟩] scope pos) scope X.env pos' (newList []) false (eval iter X.env) use) Qf X.xe s:=by
 have hfree:∀y∈scope.names,y.2= .free->∃c,X.env.cells.lookup y.1=some c:=λy hy e=>by
  rcases ok.free y hy e with k|k
  ·exact I.ok.has _ (.inl k)
  ·exact I.ok.has _ (.inr k)
 refine wpAny_comprehension_free (use:=use) U hs (T' hfree) ok.kind (λy hy e=>by rw[ok.uniq y hy,e])
  (aV (hi pins s σ H _ I h) λxv s1 hx=>aV hx λitv s2 h2=>?_)
 obtain⟨it,fp,tn,J,H2,e,I2,T,zc,f2,q⟩:=h2;subst e;refine wpAny_newObj_type (Ua ?_) (by show 0<=sizeLine;decide);generalize hD:s2.heap.objs.size=D;have hDn:H2 D=none:=I2.aK.fresh (x_ hD);obtain⟨W,⟨m0,w0⟩,turn⟩:=q D hDn;generalize KL:({s2 with heap:=s2.heap.push {cls:= .type "list",data:= .seq ([]:List Value).toArray}}:Shared)=s3;have I3:Inv X pins σ (upd H2 D (.lst [])) s3:=by rw[<-KL];refine I2.laid (t':=s2.toks) (λb o e=>Heap.get?_push_of_some _ e) (x_ hD) ⟨bj _,[],0, .nil,?_⟩;rw[<-hD];exact Heap.get?_push_size _ U
 have h3:s3.heap=s2.heap.push {cls:= .type "list",data:= .seq ([]:List Value).toArray}:=by rw[<-KL]
 have sz:∀b∈fp,b<s2.heap.objs.size:=λb hb=>by obtain⟨o,e,_⟩:=T.obj _ _ zc b hb;exact Heap.lt_size e
 have f3:∀b∈fp,j5 X pins (upd H2 D (.lst [])) b/\ b<s3.heap.objs.size:=λb hb=>by have aU:=sz b hb;refine⟨⟨?_,(f2 b hb).2⟩,by rw[h3,Heap.size_push];exact Bx aU⟩;rw[aD (by rw[<-hD];exact f6 aU)];exact(f2 b hb).1
 have zd:tn 0 s3.heap:=T.keep _ _ _ zc λb _ o e=>by rw[h3];exact Heap.get?_push_of_some _ e
 have I4:=Ub I3 ok hN f3;have pg:=hg s3 (upd H2 D (.lst [])) s3.heap.objs.size (cellsFrom (s3.heap.objs.size+1) scope.names (fV X.env.cells scope.names [])) fp;have pt:=ht s3 (upd H2 D (.lst [])) s3.heap.objs.size (cellsFrom (s3.heap.objs.size+1) scope.names (fV X.env.cells scope.names [])) fp;have pe:=he s3 (upd H2 D (.lst [])) s3.heap.objs.size (cellsFrom (s3.heap.objs.size+1) scope.names (fV X.env.cells scope.names [])) fp;show codeAny _ _ (.compStart (.ListComp elt [⟨tg,iter,ifs,0⟩] scope pos) 0 (.ref it) (.ref D) (compEnvC scope (cellsFrom (s3.heap.objs.size+1) scope.names (fV X.env.cells scope.names [])) s3.heap.objs.size X.env)) (compPost (model X.prog X.w) X.A X.xe use Qf (.ref D) s3.heap.objs.size) {s3 with heap:=pushCells (s3.heap.push {cls:= .type "dict",data:= .dict #[]}) scope.names};have nfp:∀b∈fp,(upd H2 D (.lst [])) b=none:=λb hb=>(f3 b hb).1.1;generalize jE:compEnvC scope (cellsFrom (s3.heap.objs.size+1) scope.names (fV X.env.cells scope.names [])) s3.heap.objs.size X.env=ce at I4 pg pt pe⊢;have cL:ce.locals=s3.heap.objs.size:=by subst jE;rfl
 generalize oO:upd H2 D (.lst [])=H3 at I3 I4 pg pt pe w0 nfp f3;generalize Uh:({s3 with heap:=pushCells (s3.heap.push {cls:= .type "dict",data:= .dict #[]}) scope.names}:Shared)=s4 at I4⊢;have KN:tn 0 s4.heap:=T.keep _ _ _ zd λb _ o e=>by rw[<-Uh];exact pushCells_keeps _ _ _ _ (Heap.get?_push_of_some _ e)
 have stat:∀{σ':St} {H':Hp} {s':Shared},Inv (X.bX s3 H3 scope ce fp) [] σ' H' s'->(∀b∈fp,H' b=none)->∀b∈fp,j5 (X.bX s3 H3 scope ce fp) [] H' b:=λ{σ' H' s'} I' hn b hb=>⟨hn b hb,(I'.ok.y6 b hb).1,I'.ok.vM b hb, .inl hb,λx c e=>(I'.ok.y6 b hb).2 x c e,λp hp=>absurd (show p∈([]:List (Addr×Obj))++[]from hp) (by simp)⟩
 have loop:codeAny (model X.prog X.w) X.A (.compLoop (.ListComp elt [⟨tg,iter,ifs,0⟩] scope pos) 0 (.ref it) (.ref D) ce) (compPost (model X.prog X.w) X.A X.xe use Qf (.ref D) s3.heap.objs.size) s4:=by
  refine Ug (λn s'=>∃i H',Inv (X.bX s3 H3 scope ce fp) [] (wipe σ (own.map (·.2))) H' s'/\ tn i s'.heap/\ (∀b∈fp,H' b=none)/\ W i n H') ?_ m0 ⟨0,H3,I4,KN,nfp,w0⟩;rintro n s5 ⟨i,H5,I5,tZ,n5,w5⟩;rcases turn i n H5 w5 with⟨stop,qq⟩|⟨go,Nx,hNx,step⟩
  ·have td:=T.done (X.bX s3 H3 scope ce fp) U U U hc i [] s5 _ H5 (λ_ _=>False) I5 (stat I5 n5) tZ stop
   refine t_ td λr s6 ⟨hr,I6⟩=>?_;subst hr;have I7:Inv X pins σ H5 s6:=I3.Sm (ch:=fp) I6.os I6.base I6.aK I6.bare λb hb=>⟨(f3 b hb).1.2.2.2.1,(f3 b hb).1.2.1,(f3 b hb).1.2.2.2.2.1,(f3 b hb).1.2.2.2.2.2⟩
   have nC:H5 s3.heap.objs.size=none:=by have z:H5 ce.locals=none:=I6.free;rw[cL]at z;exact z
   obtain⟨m,hn,_⟩:=I6.loc;have hn:s6.heap.Ns ce.locals m:=hn;rw[cL]at hn;exact hRR D s3.heap.objs.size s6 m H5 I7 qq hn (I3.rE (aM _) nC)
  ·have ti:=T.item (X.bX s3 H3 scope ce fp) U U U hc i [] s5 _ H5 (λ_ _=>False) I5 (stat I5 n5) tZ go
   refine t_ ti λr s6 ⟨u,hr,h6⟩=>?_;subst hr;refine t_ h6 λ_ s7 ⟨x,H7,I7,r7,y7,Du,n7⟩=>?_;have I7':=I7.pinned (stat I7 n7) (T.obj _ _ Du);refine t_ (pg _ s7 _ H7 x u _ I7' r7 (step x H7 y7)) λ_ s8 ⟨σ8,H8,I8,KO,q8⟩=>?_;refine t_ (pt _ s8 σ8 H8 _ I8 q8) λb s9 ⟨H9,I9,q9⟩=>?_;have fin:∀{s':Shared} {H':Hp},Inv (X.bX s3 H3 scope ce fp) ([]++vT fp s7.heap) σ8 H' s'->Nx H'->∃m,m<n/\ ∃i H',Inv (X.bX s3 H3 scope ce fp) [] (wipe σ (own.map (·.2))) H' s'/\ tn i s'.heap/\ (∀b∈fp,H' b=none)/\ W i m H':=λ{s' H'} I' nx=>by
    obtain⟨m',hm,w'⟩:=hNx H' nx;have pin':∀b∈fp,∀o,s7.heap.get? b=some o->s'.heap.get? b=some o/\ H' b=none:=λb hb o e=>
     let z:=I'.pin (b,o) (iY _ (iY _ (CQ hb e)))
     ⟨z.1,z.2.1⟩
    have hl:(wipe σ (own.map (·.2))).length=σ8.length:=by rw[<-KO,Dq]
    refine⟨m',hm,i+1,H',(I'.zb (pins:=[])).weak hl (λj v e=>?_),T.keep _ _ _ Du λb hb o e=>(pin' b hb o e).1,λb hb=>?_,w'⟩
    ·rw[<-KO]at e
     exact(Dr e).1
    ·obtain⟨o,e,_⟩:=T.obj _ _ Du b hb
     exact(pin' b hb o e).2
   cases b with
   |false=>simp only[pz,if_false]at q9⊢;exact fin I9 q9
   |true=>simp only[if_true]at q9⊢;refine t_ (pe _ s9 σ8 H9 _ I9 q9) λz wj ⟨yv,H10,I10,r10,acc,Ui,Uj,nx⟩=>?_;exact Ue (X:=X.bX s3 H3 scope ce fp) I10 Ui Uj r10 λwk I11=>fin I11 nx
 exact codeAny_compStart_list loop (T.self X.A 0 _ _ _ KN loop)
theorem mj{elt tg iter:Expr}{ifs:List Expr}{scope:Scope}{own:List (Str×Nat)}{pos:Pos}{wi:TI}{g:TG}{tt:TT}{te:TE}(hc:X.calm=true)(hN:X.N.Nodup)(hi:PI X tg iter wi)(ok:wd X.N X.env.scope scope own)
  (hg:∀(s:Shared) (H:Hp) (C:Addr) (cl:List (Str×Addr)) (fp:List Addr),PG (X.bX s H scope (compEnvC scope cl C X.env) fp) tg g) (ht:∀(s:Shared) (H:Hp) (C:Addr) (cl:List (Str×Addr)) (fp:List Addr),we (X.bX s H scope (compEnvC scope cl C X.env) fp) ifs tt)
  (he:∀(s:Shared) (H:Hp) (C:Addr) (cl:List (Str×Addr)) (fp:List Addr),PE (X.bX s H scope (compEnvC scope cl C X.env) fp) elt te) (hs:∀x,foldedSetIterable iter X.env x=pure x:=by intro _;rfl):
  PE X (.ListComp elt [⟨tg,iter,ifs,0⟩] scope pos) (zA wi g tt te (own.map (·.2))):=by
 intro pins s σ H Q I h;rw[eval_ListComp];refine KJ hc hN I hi ok hg ht he hs h λD C s' m H' I' q hn f=>⟨m,hn,λp7 sb=>?_⟩
 obtain⟨f0,f1,f2,f3,f4,f5⟩:=f;exact⟨.ref D,H',I'.turned (t':=s'.toks) (λb o hb e=>(sb.2 b hb).trans e) f0 f1 f3 f4 f5,U,q⟩
theorem Dv{i:Nat}{y:Str}{py:Pos}{elt tg iter:Expr}{ifs:List Expr}{scope:Scope}{own:List (Str×Nat)}{pos spos:Pos}{wi:TI}{g:TG}{tt:TT}{te:TE}(hc:X.calm=true)(hN:X.N.Nodup)(hy:X.N[i]? =some y)(h_:X.env.scope.names.lookup y=some .local)
  (zB:swapsWith (.ListComp elt [⟨tg,iter,ifs,0⟩] scope pos) (some (.Name y py)) spos.line X.env=pure true) (hi:PI X tg iter wi) (ok:wd X.N X.env.scope scope own)
  (hg:∀(s:Shared) (H:Hp) (C:Addr) (cl:List (Str×Addr)) (fp:List Addr),PG (X.bX s H scope (compEnvC scope cl C X.env) fp) tg g) (ht:∀(s:Shared) (H:Hp) (C:Addr) (cl:List (Str×Addr)) (fp:List Addr),we (X.bX s H scope (compEnvC scope cl C X.env) fp) ifs tt)
  (he:∀(s:Shared) (H:Hp) (C:Addr) (cl:List (Str×Addr)) (fp:List Addr),PE (X.bX s H scope (compEnvC scope cl C X.env) fp) elt te) (hs:∀x,foldedSetIterable iter X.env x=pure x:=by intro _;rfl):
  PS X (.Assign [.Name y py] (.ListComp elt [⟨tg,iter,ifs,0⟩] scope pos) spos) (oE (zA wi g tt te (own.map (·.2))) (ik i)):=by
 intro pins s σ H D I h;rw[exec_Assign_Name_used _ _ _ _ zB];refine wpAny_bind (wpAny_standAt (wpAny_bind ?_));show wpAny _ X.A (do let _<-comprehension (.ListComp elt [⟨tg,iter,ifs,0⟩] scope pos) scope X.env (firstIterPos [⟨tg,iter,ifs,0⟩] pos) (newList []) false (eval iter X.env) (some (assign (.Name y py) X.env))) _ _ s;have h:zA wi g tt te (own.map (·.2)) σ H (λx H1=>ik i x σ H1 D.nx):=h;refine wpAny_bind (aV (KJ (Qf:=λ_ s'=>SP X pins D .next s') hc hN I hi ok hg ht he hs h λL C s' m H' I' q hn f=>?_) λ_ s' hq=>wpAny_pure (wpAny_pure hq));show wpAny _ _ (assign (.Name y py) X.env (.ref L)) _ _ _;refine wpAny_assign_Name (JR (v:=V.ref L) I' hN hy (.inl h_) U (λs2 I2 ⟨a,sb,ha⟩=>?_) (.inr h_));obtain⟨f0,f1,f2,f3,f4,f5⟩:=f;have haC:C≠a:=by
  rcases ha with z|z
  ·rw[z];exact f1
  ·exact λe=>f4 y a z e.symm
 refine⟨m,hn.sameBut sb haC,λh3 Uk=>?_⟩;exact⟨_,H',I2.turned (t':=s2.toks) (λb o hb e=>(Uk.2 b hb).trans e) f0 f1 f3 f4 f5,q⟩
theorem Dx{elt:Expr}{gs:List Comprehension}{scope:Scope}{pos py:Pos}{y:Str}{l:Nat}{env:Env}(hk:env.scope.kind= .function)(hy:env.scope.names.lookup y=some .local)(hl:(py.line==pos.line)=true)
  (ha:(scope.names.any λ(n,k)=>n==y&&(k== .local||k== .cell))=false):swapsWith (.ListComp elt gs scope pos) (some (.Name y py)) l env=pure true:=by
 have ky:env.kindOf y=some .local:=hy;have hb:env.blockKind= .function:=by unfold Env.blockKind;rw[hk];rfl
 unfold swapsWith;simp only[hb,ky,ha,Expr.pos,hl];rfl
end
def iS(N:List Str)(sc scope:Scope)(own:List (Str×Nat)):Bool:=
 (match scope.kind with| .function=>true|_=>false)&&(scope.names.all λy=>decide (scope.names.lookup y.1=some y.2))&&(own.all λp=>decide (N[p.2]? =some p.1))&&
  (scope.names.all λy=>match y.2 with
   | .free=>(match sc.names.lookup y.1 with|some .cell=>true|some .free=>true|_=>false)
   | .local| .cell=>decide (y.1∈own.map (·.1))||decide (y.1∉N)
   |_=>true)
theorem jF{N:List Str}{sc scope:Scope}{own:List (Str×Nat)}(h:iS N sc scope own=true):wd N sc scope own:=by
 unfold iS at h;simp only[bb,iC,decide_eq_true_eq]at h;obtain⟨⟨⟨h1,h2⟩,h3⟩,h4⟩:=h;refine⟨?_,h2,h3,λy hy e=>?_,λy hy e=>?_⟩
 ·split at h1
  ·assumption
  ·cases h1
 ·have q:=h4 y hy
  simp only[e]at q;split at q<;>first|exact .inl (by assumption)|exact .inr (by assumption)|cases q
 ·have q:=h4 y hy
  rcases e with e|e<;>(simp only[e,qI,decide_eq_true_eq]at q;exact q)
end L2
namespace L2
open PySem PySem.Spec PyProof.Rows
section
variable{prog:Program}{w:World}{A:Around}{R:Result->Shared->Prop}{s:Shared}{elt t0 i0 t1 i1:Expr}{ifs0 ifs1:List Expr}{scope:Scope}{pos:Pos}{it acc:Value}{env:Env}
end
section
variable{X:Cx}
end
end L2
namespace L2
open PySem PySem.Spec PyProof.Rows
section
variable{κ:Type}[DecidableEq κ]
def gA(ax:List (κ×V))(k:κ):Option V:=(ax.find? λkv=>decide (kv.1=k)).map (·.2)
def putK(ax:List (κ×V))(k:κ)(v:V):List (κ×V):=if(ax.any λkv=>decide (kv.1=k))=true then ax.map (λkv=>if kv.1=k then(kv.1,v)else kv)else ax++[(k,v)]
theorem Dy{p:κ×V}{r:List (κ×V)}{k:κ}(e:p.1=k):gA (p::r) k=some p.2:=by simp[gA,n6,e]
theorem Dz{p:κ×V}{r:List (κ×V)}{k:κ}(e:¬p.1=k):gA (p::r) k=gA r k:=by simp[gA,n6,e]
theorem wm(k:κ):∀ax:List (κ×V),(ax.any λkv=>decide (kv.1=k))=(gA ax k).isSome
 |[]=>rfl
 |p::r=>by
  rw[n9];by_cases e:p.1=k
  ·simp only[Dy e,decide_eq_true e,Bool.true_or,Option.isSome_some]
  ·rw[Dz e,decide_eq_false e,uZ];exact wm k r
theorem KQ(ax:List (κ×V))(k:κ)(v:V):(putK ax k v).length<=ax.length+1:=by
 unfold putK;split
 ·rw[aI];omega
 ·rw[bL,aX,kI];omega
theorem KR{ax:List (κ×V)}{k:κ}(v:V)(h:gA ax k=none):putK ax k v=ax++[(k,v)]:=by unfold putK;rw[wm,h];exact if_neg (by decide)
theorem iO.DA{o:Option V}{u:Option Value}(r:iO o u):o.isSome=u.isSome:=by
 cases o with
 |none=>cases u with
  |none=>rfl
  |some _=>exact(show False from r).elim
 |some _=>cases u with
  |none=>exact(show False from r).elim
  |some _=>rfl
theorem KV.val{ax:List (κ×V)}{vs:List (κ×Value)}(r:KV ax vs)(k:κ):iO (gA ax k) (valueAt vs k):=by
 unfold KV at r;induction r with
 |nil=>exact True.intro
 | @cons p q ps qs h t ih=>
  obtain⟨h1,h2⟩:=h;by_cases e:p.1=k
  ·have e':q.1=k:=h1.symm.trans e
   have b:valueAt (q::qs) k=some q.2:=by simp[valueAt,n6,e']
   rw[Dy e,b];exact h2
  ·have e':¬q.1=k:=λz=>e (h1.trans z)
   have b:valueAt (q::qs) k=valueAt qs k:=by simp[valueAt,n6,e']
   rw[Dz e,b];exact ih
theorem KV.any{ax:List (κ×V)}{vs:List (κ×Value)}(r:KV ax vs)(k:κ):(ax.any λkv=>decide (kv.1=k))=vs.any λkv=>decide (kv.1=k):=by
 unfold KV at r;induction r with
 |nil=>rfl
 |cons h t ih=>rw[n9,n9,ih,h.1]
theorem KV.DB{ax:List (κ×V)}{vs:List (κ×Value)}(r:KV ax vs)(k:κ){y:V}{u:Value}(ry:RelV y u):
  KV (ax.map λkv=>if kv.1=k then(kv.1,y)else kv) (vs.map λkv=>if kv.1=k then(kv.1,u)else kv):=by
 unfold KV at r⊢;induction r with
 |nil=>exact .nil
 | @cons p q ps qs h t ih=>
  rw[da,da];refine .cons ?_ ih;obtain⟨h1,h2⟩:=h;by_cases e:p.1=k
  ·rw[if_pos e,if_pos (h1.symm.trans e)];exact⟨h1,ry⟩
  ·rw[if_neg e,if_neg (λz=>e (h1.trans z))];exact⟨h1,h2⟩
theorem KV.put{ax:List (κ×V)}{vs:List (κ×Value)}(r:KV ax vs)(k:κ){y:V}{u:Value}(ry:RelV y u):KV (putK ax k y) (stored vs k u):=by
 unfold putK stored;rw[r.any k];by_cases e:(vs.any λkv=>decide (kv.1=k))=true
 ·rw[if_pos e,if_pos e];exact r.DB k ry
 ·rw[if_neg e,if_neg e];exact Paired.snoc r ⟨U,ry⟩
theorem KV.length{ax:List (κ×V)}{vs:List (κ×Value)}(r:KV ax vs):ax.length=vs.length:=Paired.length r
end
theorem DC{P:Program}{w:World}{k:Key}{u:Value}(r:RelV (kV k) u):(jY P w).is k u=true:=by
 cases k with
 |inl i=>obtain⟨t,e⟩:=(show∃t,u=Value.int i t from r);subst e;exact Sb P w i t
 |inr x=>obtain⟨t,e⟩:=(show∃t,u=Value.str x t from r);subst e;exact Sd P w x t
theorem KS{P:Program}{w:World}:∀{ks:List Key} {us:List Value},Vals (ks.map kV) us->ItemsAre (jY P w) ks us
 |[],_,r=>by rw[pG]at r;cases r;exact .nil
 |k::ks,_,r=>by
  rw[da]at r;cases r with
  |cons h t=>exact .cons (DC h) (KS t)
abbrev KT(H:Hp):List (List Key×V)->List (List Key×Addr×Value)->Prop:=Paired λp q=>p.1=q.1/\ H q.2.1=some (.tup (p.1.map kV))/\ RelV p.2 q.2.2
theorem KT.val{H:Hp}{ax:List (List Key×V)}{xs:List (List Key×Addr×Value)}(r:KT H ax xs)(k:List Key):iO (gA ax k) ((atKey xs k).map (·.2)):=by
 induction r with
 |nil=>exact True.intro
 | @cons p q ps qs h t ih=>
  obtain⟨h1,_,h2⟩:=h;by_cases e:p.1=k
  ·have e':q.1=k:=h1.symm.trans e
   have b:atKey (q::qs) k=some q.2:=by simp[atKey,n6,e']
   rw[Dy e,b];exact h2
  ·have e':¬q.1=k:=λz=>e (h1.trans z)
   have b:atKey (q::qs) k=atKey qs k:=by simp[atKey,n6,e']
   rw[Dz e,b];exact ih
theorem KT.DB{H:Hp}{ax:List (List Key×V)}{xs:List (List Key×Addr×Value)}(r:KT H ax xs)(k:List Key){y:V}{u:Value}(ry:RelV y u):
  KT H (ax.map λkv=>if kv.1=k then(kv.1,y)else kv) (xs.map (putAt k u)):=by
 induction r with
 |nil=>exact .nil
 | @cons p q ps qs h t ih=>
  rw[da,da];refine .cons ?_ ih;obtain⟨h1,h2,h3⟩:=h;unfold putAt;by_cases e:p.1=k
  ·rw[if_pos e,if_pos (h1.symm.trans e)];exact⟨h1,h2,ry⟩
  ·rw[if_neg e,if_neg (λz=>e (h1.trans z))];exact⟨h1,h2,h3⟩
theorem KT.put{H:Hp}{ax:List (List Key×V)}{xs:List (List Key×Addr×Value)}(r:KT H ax xs)(k:List Key){b:Addr}{y:V}{u:Value}(hb:H b=some (.tup (k.map kV)))(ry:RelV y u):
  KT H (putK ax k y) (storedH xs k b u):=by
 have e:(ax.any λkv=>decide (kv.1=k))=(atKey xs k).isSome:=by rw[wm,(r.val k).DA,Option.isSome_map]
 unfold putK storedH;rw[e];by_cases q:(atKey xs k).isSome=true
 ·rw[if_pos q,if_pos q];exact r.DB k ry
 ·rw[if_neg q,if_neg q];exact Paired.snoc r ⟨U,hb,ry⟩
theorem KT.keeps{H H':Hp}{ax:List (List Key×V)}{xs:List (List Key×Addr×Value)}(r:KT H ax xs)(ht:∀b ys,H b=some (.tup ys)->H' b=some (.tup ys)):KT H' ax xs:=Paired.CA r λ_ _ z=>⟨z.1,ht _ _ z.2.1,z.2.2⟩
section
variable{P:Program}{w:World}{H:Hp}{h:Heap}{a:Addr}
theorem KU{u:HO}(ok:du P w H h)(e:Rd H a u):dU P w H h a u:=e.ok ok
theorem DD{ax:List (Key×V)}(ok:du P w H h)(e:Rd H a (.dK ax)):ax.length<=sizeLine/\ (a==sysModules)=false/\ ∃vs,KV ax vs/\ h.DictOf (jY P w) a vs:=show dU P w H h a (.dK ax)from KU ok e
theorem Ul{ax:List (Key×V)}(ok:du P w H h)(e:H a=some (.dK ax)):ax.length<=sizeLine/\ (a==sysModules)=false/\ ∃vs,KV ax vs/\ h.DictOf (jY P w) a vs:=DD ok (.inl e)
theorem DE{ks:List Key}(ok:du P w H h)(e:H a=some (.tup (ks.map kV))):(tupleKind (jY P w)).is h ks a:=by
 obtain⟨_,ai,r,o,h1,h2,n,h3⟩:=(show dU P w H h a (.tup (ks.map kV))from ok a _ e)
 exact⟨o,ai.toArray,n,h1,h2,h3,by simpa using KS r⟩
theorem KW{ax:List (List Key×V)}(ok:du P w H h)(e:Rd H a (.dT ax)):ax.length<=sizeLine/\ (a==sysModules)=false/\
  ∃xs,KT H ax xs/\ h.DictOfH (tupleKind (jY P w)) a xs:=by
 obtain⟨z,y,xs,r,o,es,ep,h1,h2,h3,h4,h5⟩:=(show dU P w H h a (.dT ax)from KU ok e)
 refine⟨z,y,xs,r,o,es,ep,h1,h2,h3,h4,λx hx=>?_,h5⟩;have all:∀{l:List (List Key×V)} {m:List (List Key×Addr×Value)},KT H l m->∀x∈m,(tupleKind (jY P w)).is h x.1 x.2.1:=by
  intro l m q;induction q with
  |nil=>intro x hx;exact nomatch hx
  | @cons p q ps qs hq t ih=>
   intro x hx;rcases a_.mp hx with e|hx
   ·subst e
    exact DE ok (by rw[<-hq.1];exact hq.2.1)
   ·exact ih x hx
 exact all r x hx
theorem Um{ax:List (List Key×V)}(ok:du P w H h)(e:H a=some (.dT ax)):ax.length<=sizeLine/\ (a==sysModules)=false/\
  ∃xs,KT H ax xs/\ h.DictOfH (tupleKind (jY P w)) a xs:=KW ok (.inl e)
end
def p8(H:Hp)(a:Addr)(y:V)(r:Option V):Prop:=(∃ax k,Rd H a (.dK ax)/\ y=kV k/\ r=gA ax k)\/∃ax k b,Rd H a (.dT ax)/\ y= .ref b/\ H b=some (.tup (k.map kV))/\ r=gA ax k
def p9(H:Hp)(a:Addr)(y v:V)(H':Hp):Prop:=
 (∃ax k,H a=some (.dK ax)/\ y=kV k/\ ax.length<sizeLine/\ H'=upd H a (.dK (putK ax k v)))\/
 ∃ax k b,H a=some (.dT ax)/\ y= .ref b/\ H b=some (.tup (k.map kV))/\ ax.length<sizeLine/\ H'=upd H a (.dT (putK ax k v))
theorem p8.k{H:Hp}{a:Addr}{ax:List (Key×V)}{k:Key}(e:H a=some (.dK ax)):p8 H a (kV k) (gA ax k):= .inl ⟨ax,k, .inl e,U,U⟩
theorem p9.k{H:Hp}{a:Addr}{ax:List (Key×V)}{k:Key}{v:V}(e:H a=some (.dK ax))(hl:ax.length<sizeLine):p9 H a (kV k) v (upd H a (.dK (putK ax k v))):= .inl ⟨ax,k,e,U,hl,U⟩
section
variable{X:Cx}{pins:List (Addr×Obj)}{σ:St}{H:Hp}{s:Shared}{a:Addr}{y v:V}{u r:Value}{o:Option V}{A:Around}{E:Value->Shared->Prop}
theorem Inv.big(I:Inv X pins σ H s):sysModules<s.heap.objs.size:=by have h:mainGlobals<s.heap.objs.size:=(I.mod.glob.keeps I.bk).lt;exact Nat.lt_trans (by decide) h
theorem Uo{Q:Value->Shared->Prop}(hu:A.units+1<cLine)(I:Inv X pins σ H s)(g:p8 H a y o)(ry:RelV y u)(h:∀s',Inv X pins σ H s'->Q (.bool o.isSome) s'):
  wpAny (model X.prog X.w) A (compareOp .In u (.ref a)) Q E s:=by
 rcases g with⟨ax,k,e,ey,l⟩|⟨ax,k,b,e,ey,eb,l⟩
 ·subst ey
  obtain⟨z,hd,vs,rel,dd⟩:=DD I.aK e;refine wpAny_in_of (DC ry) hd dd.mapOf ?_;rw[<-(rel.val k).DA,<-l];exact h _ (I.tok _)
 ·subst ey
  cases (show u=Value.ref b from ry);obtain⟨z,hd,xs,rel,dd⟩:=KW I.aK e;refine wpAny_in_heap (tupleKind_room_in1 hu) (DE I.aK eb) hd dd ?_;have q:=(rel.val k).DA;rw[Option.isSome_map]at q;rw[<-q,<-l];exact h _ (I.tok _)
theorem KY{h':Heap}{t':Nat}{ob:HO}(I:Inv X pins σ H s)(mu:vH (H a))(hs:Heap.SameBut a s.heap h')(he:∃q,h'.get? a=some q)(new:dU X.prog X.w (upd H a ob) h' a ob):
  Inv X pins σ (upd H a ob) {s with heap:=h',toks:=t'}:=
 I.write (x:=a) (e:=a) mu (.inl U) (λb q hb z=>(hs.2 b hb).trans z) he new
theorem Up{P:Program}{w:World}{H':Hp}{h':Heap}{ax:List (Key×V)}{vs:List (Key×Value)}(z:ax.length<=sizeLine)(hd:(a==sysModules)=false)(rel:KV ax vs)(dd:h'.DictOf (jY P w) a vs):
  dU P w H' h' a (.dK ax):=⟨z,hd,vs,rel,dd⟩
theorem Uq{H':Hp}{Q:Unit->Shared->Prop}(hu:A.units+1<cLine)(I:Inv X pins σ H s)(g:p9 H a y v H')(ry:RelV y u)(rv:RelV v r)(h:∀s',Inv X pins σ H' s'->Q () s'):
  wpAny (model X.prog X.w) A (setItem (.ref a) u r) Q E s:=by
 rcases g with⟨ax,k,e,ey,l,eH⟩|⟨ax,k,b,e,ey,eb,l,eH⟩
 ·subst ey eH
  obtain⟨z,hd,vs,rel,dd⟩:=Ul I.aK e;have hz:vs.length<=sizeLine:=by rw[<-rel.length];exact z
  have hl:(putK ax k v).length<=sizeLine:=by have:=KQ ax k v;omega
  refine wpAny_setItem_pairs (hsz:=hz) (DC ry) dd λh' zC hs=>h _ ?_;have he:∃q,h'.get? a=some q:=let⟨q,_,_,hq,_⟩:=zC;⟨q,hq⟩;exact KY I (by rw[e];exact True.intro) hs he (Up hl hd (rel.put k rv) zC)
 ·subst ey eH
  cases (show u=Value.ref b from ry);obtain⟨z,hd,xs,rel,dd⟩:=Um I.aK e;have hz:xs.length<=sizeLine:=by rw[<-Paired.length rel];exact z
  have hl:(putK ax k v).length<=sizeLine:=by have:=KQ ax k v;omega
  refine wpAny_setItem_heap (hsz:=hz) (tupleKind_room_in1 hu) (DE I.aK eb) dd λh' zC hs=>h _ ?_;obtain⟨q,es,ep,hq,h2,h3,h4,_,h5⟩:=zC;refine KY I (by rw[e];exact True.intro) hs ⟨q,hq⟩ ⟨hl,hd,_,(rel.put k eb rv).keeps λc ys ec=>?_,q,es,ep,hq,h2,h3,h4,h5⟩;rw[aD (ig ec e (λz=>nomatch z))];exact ec
end
section
variable{X:Cx}{pins:List (Addr×Obj)}{σ:St}{H:Hp}{s:Shared}{a:Addr}{ax:List (Key×V)}{k:Key}{u:Value}{A:Around}{E:Value->Shared->Prop}
theorem Ur{Q:Value->Shared->Prop}(I:Inv X pins σ H s)(e:Rd H a (.dK ax))(h:∀t s',Inv X pins σ H s'->Q (.int ax.length t) s'):wpAny (model X.prog X.w) A (call (.builtin "len") [.ref a]) Q E s:=by obtain⟨z,hd,vs,rel,dd⟩:=DD I.aK e;refine call_len_dict hd dd (by rw[<-rel.length];rw[sizeLine_eq]at z;omega) ?_;rw[<-rel.length];exact h _ _ (I.tok _)
end
def Us(ty td:TE):TE:=λσ H Q=>ty σ H λy H1=>td σ H1 λx H2=>∃a o,x= .ref a/\ p8 H2 a y o/\ Q (.bl o.isSome) H2
def Ut(td ty tv:TE):TS:=λD σ H=>tv σ H λv H1=>td σ H1 λx H2=>ty σ H2 λy H3=>∃a H4,x= .ref a/\ p9 H3 a y v H4/\ D.nx σ H4
section
variable{X:Cx}{o i e value:Expr}{pos pos' tpos:Pos}{td ty tv:TE}
theorem KZ(hu:X.A.units+1<cLine)(hi:PE X i ty)(ho:PE X o td):PC X .In i o (Us ty td):=by intro pins s σ H Q I h;refine aV (hi pins s σ H _ I h) λiv s1 ⟨y,H1,I1,ry,q1⟩=>aV (ho pins s1 σ H1 _ I1 q1) λu s2 ⟨x,H2,I2,rx,a,ov,ex,g,q2⟩=>?_;subst ex;obtain rfl:u=Value.ref a:=rx;exact Uo hu I2 g ry λs3 I3=>⟨.bl ov.isSome,H2,I3,U,q2⟩
theorem K0(hu:X.A.units+1<cLine)(ho:PE X o td)(hi:PE X i ty)(hv:PE X value tv)(hs:swapsWith value (some (.Subscript o i pos')) pos.line X.env=pure false):
  PS X (.Assign [.Subscript o i pos'] value pos) (Ut td ty tv):=by
 intro pins s σ H D I h;refine wpAny_Assign_Subscript (aV (hv pins s σ H _ I h) λr s1 ⟨v,H1,I1,rv,q1⟩=>aV (ho pins s1 σ H1 _ I1 q1) λu s2 ⟨x,H2,I2,rx,q2⟩=>aV (hi pins s2 σ H2 _ I2 q2) λiv s3 ⟨y,H3,I3,ry,a,H4,ex,g,q3⟩=>?_) hs;subst ex;obtain rfl:u=Value.ref a:=rx;exact Uq hu I3 g ry rv λs4 I4=>⟨σ,H4,I4,q3⟩
end
theorem Uu{P:Program}{w:World}{H:Hp}(h:Heap)(hb:sysModules<h.objs.size):dU P w H (h.push {cls:= .type "dict",data:= .dict #[]}) h.objs.size (.dK []):=⟨bj _,beq_eq_false_iff_ne.mpr (Ne.symm (f6 hb)),[], .nil,Heap.DictOf.new h⟩
def Uv:TE:=λ_ H Q=>∀p,H p=none->Q (.ref p) (upd H p (.dK []))
section
variable{X:Cx}{pos:Pos}
theorem Uw:PE X (.Dict [] [] pos) Uv:=λpins s σ H Q I h=>wpAny_Dict_empty ⟨.ref s.heap.objs.size,_,I.laid (a:=s.heap.objs.size) (o:= .dK []) (t':=s.toks) (λ_ _ q=>Heap.get?_push_of_some _ q) (aM _) (Uu s.heap I.big),U,h _ (I.aK.fresh (aM _))⟩
end
section
variable{X:Cx}{pins:List (Addr×Obj)}{σ:St}{H:Hp}{s:Shared}{a:Addr}{y d:V}{u r:Value}{o:Option V}{A:Around}{E:Value->Shared->Prop}
end
section
variable{X:Cx}{o e f:Expr}{apos cpos:Pos}{td ty tx:TE}
end
section
variable{X:Cx}{pins:List (Addr×Obj)}{σ:St}{H:Hp}{s:Shared}{a:Addr}{ax:List (Key×V)}{A:Around}{E:Value->Shared->Prop}
end
section
variable{X:Cx}{pins:List (Addr×Obj)}{σ:St}{H:Hp}{s:Shared}{a:Addr}{y:V}{u:Value}{A:Around}{E:Value->Shared->Prop}
end
end L2
namespace L2
open PySem PySem.Spec PyProof.Rows
section
variable{prog:Program}{w:World}{A:Around}{E:Value->Shared->Prop}
end
section
variable{X:Cx}
end
end L2
namespace L2
open PySem PySem.Spec PyProof.Rows
theorem K2:bootBuiltins "reversed"=some (.type "reversed"):=by decide+kernel
section
variable{X:Cx}{pins:List (Addr×Obj)}{σ:St}{H:Hp}{s:Shared}{h':Heap}
theorem Inv.Uy{t':Nat}{ch:List Addr}(I:Inv X pins σ H s)(k:∀b o,b∉ch->s.heap.get? b=some o->h'.get? b=some o)(hf:∀b∈ch,j5 X pins H b):Inv X pins σ H {s with heap:=h',toks:=t'}:=by
 have nit:∀b u,H b=some u->b∉ch:=λb u e z=>by have q:=(hf b z).1;rw[q]at e;cases e
 refine I.step (g':=s.gens) (d':=s.drawn) (ch:=ch) (λb hb=>⟨(hf b hb).2.2.2.1,(hf b hb).2.1,(hf b hb).2.2.2.2.1,(hf b hb).2.2.2.2.2⟩) (λb o _ _ hc e _=>k b o hc e) (λb o _ _ hc e _=>⟨o.slots,k b o hc e⟩)
  (λ_ _ _ _ n=>n) (λb o hc e=>⟨o,k b o hc e⟩) (λ_ _ e=>e) (λ_ _ _ e=>e) (λb ps e=>⟨#[],by rw[e];simp⟩) (λm hm=>?_) (λb u e=>?_) I.bare
 ·obtain⟨o,es,ep,ho,r⟩:=hm
  exact⟨o,es,ep,k _ o (λz=>(hf _ z).2.1 U) ho,r⟩
 ·refine(I.aK b u e).rm (λc v hc q=>k c v ?_ q) (λ_ q=>q) λ_ _ q=>q
  rcases hc with z|z
  ·rw[z];exact nit b u e
  ·exact nit c _ z
theorem Inv.DF{t':Nat}{ch:List Addr}{T:Addr}{ob:HO}(I:Inv X pins σ H s)(k:∀b o,b∉ch->s.heap.get? b=some o->h'.get? b=some o)(hf:∀b∈ch,j5 X pins H b)(hT:s.heap.objs.size<=T)
  (new:dU X.prog X.w (upd H T ob) h' T ob):Inv X pins σ (upd H T ob) {s with heap:=h',toks:=t'}:=by
 have hn:H T=none:=I.aK.fresh hT;have nit:∀b u,H b=some u->b∉ch:=λb u e z=>by have q:=(hf b z).1;rw[q]at e;cases e
 refine I.step (g':=s.gens) (d':=s.drawn) (ch:=ch) (λb hb=>⟨(hf b hb).2.2.2.1,(hf b hb).2.1,(hf b hb).2.2.2.2.1,(hf b hb).2.2.2.2.2⟩) (λb o _ _ hc e _=>k b o hc e) (λb o _ _ hc e _=>⟨o.slots,k b o hc e⟩)
  (λb o _ e n=>?_) (λb o hc e=>⟨o,k b o hc e⟩) (λb xs e=>?_) (λb o u e=>?_) (λb ps e=>⟨#[],?_⟩) (λm hm=>?_) (λb u e=>?_) I.bare
 ·rw[aD (f6 (gT (Heap.lt_size e) hT))];exact n
 ·rw[aD (bS e hn)];exact e
 ·rw[aD (bS e hn)];exact e
 ·rw[aD (bS e hn),e];simp
 ·obtain⟨o,es,ep,ho,r⟩:=hm
  exact⟨o,es,ep,k _ o (λz=>(hf _ z).2.1 U) ho,r⟩
 ·by_cases hb:b=T
  ·subst hb
   rw[ae]at e;cases e;exact new
  ·rw[aD hb]at e
   refine(I.aK b u e).rm (λc v hc q=>k c v ?_ q) (λc q=>by rw[aD (bS q hn)];exact q) λc xs q=>by rw[aD (bS q hn)];exact q
   rcases hc with z|z
   ·rw[z];exact nit b u e
   ·exact nit c _ z
end
section
variable{X:Cx}
theorem zD{tg:Expr}{pins:List (Addr×Obj)}{σ:St}{H:Hp}{s:Shared}{R:It->Hp->Prop}{J:It}{tn:Nat->Heap->Prop}{tk:Nat}(I:Inv X pins σ H s)(o:Obj)
  (T:Turn X.prog X.w X.K tg J [s.heap.objs.size] s.heap.objs.size tn) (st:tn 0 (s.heap.push o)) (q:R J H):CP X pins σ tg R (.ref s.heap.objs.size) {s with heap:=s.heap.push o,toks:=tk}:=by
 refine⟨s.heap.objs.size,[s.heap.objs.size],tn,J,H,U,I.kept λb ob e=>Heap.get?_push_of_some _ e,T,st,λb hb=>?_,q⟩;have e:b=s.heap.objs.size:=by simpa using hb
 subst e;exact I.rE (aM _) (I.aK.fresh (aM _))
end
def wq(lo c:Int)(n:Nat):It:=⟨λi _=>i<n,λi H x H'=>H'=H/\ x= .int (lo+(i:Nat)*c),λi _=>n<=i⟩
theorem Uz{P:Program}{w:World}{K:PySem.W.Frag}{tg:Expr}(it:Addr)(lo c:Int)(n:Nat):Turn P w K tg (wq lo c n) [it] it (λi h=>IsRangeIter h it (lo+(i:Nat)*c) ((n:Int)-(i:Nat)) c) where
 mem:=by simp
 obj:=λi h st b hb=>by
  have e:b=it:=by simpa using hb
  subst e;exact⟨_,st,λv z=>nomatch z⟩
 keep:=λi h h' st k=>k it (by simp) _ st
 item:=by intro X hP hw hK hc i pins s σ H E I hf st hg;subst hP hw hK;obtain⟨f0,f1,f2,f3,f4,f5⟩:=hf it (by simp);have W:=Walks.range (prog:=X.prog) (w:=X.w) (I.ok.hd hc) it lo c n;refine W.item i s _ _ hg st λv h' tk hv ja kk=>?_;obtain⟨t,rfl⟩:=hv;have I1:Inv X pins σ H {s with heap:=h',toks:=tk}:=I.turned (λb o hb e=>kk b o (by simpa using hb) e) f0 f1 f3 f4 f5;exact⟨_,U,vS (s:={s with heap:=h',toks:=tk}) (n:="range_iterator") ja U U (by decide) ⟨.int (lo+(i:Nat)*c),H,I1,⟨t,U⟩,⟨U,U⟩,ja,λb hb=>(hf b hb).1⟩⟩
 done:=by intro X hP hw hK hc i pins s σ H E I hf st hg;subst hP hw hK;obtain⟨f0,f1,f2,f3,f4,f5⟩:=hf it (by simp);exact wpAny_pyNext_range_end (I.ok.hd hc) st (by have:n<=i:=hg;omega) λh' eb=>⟨U,I.turned (t':=s.toks) (λb o hb e=>eb b o hb e) f0 f1 f3 f4 f5⟩
 self:=λA i s Q E st h=>wpAny_pyIter_rangeiter st h
def zE(i j c:Int)(n:Nat):Prop:=c≠0/\ c.natAbs<1073741824/\ Builtin.Range.small i j c=true/\ Builtin.Range.rangeSize i j c=n
def UA(ta:TA):TI:=λσ H R=>ta σ H λvs H1=>∃(i j c:Int) (n:Nat),vs=[.int i, .int j, .int c]/\ zE i j c n/\ R (wq i c n) H1
section
variable{X:Cx}{tg:Expr}
theorem UB{a b c:Expr}{ta:TA}{p pos:Pos}(hg:Gl X "range")(hm:X.mg "range"=none)(ha:PA X [a,b,c] ta)
  (hs:starEach [a,b,c] X.env=(false,eval a X.env)::starEach [b,c] X.env:=by rfl) (bK:(backTo pos (starEach [b,c] X.env)).any (·.1)=false:=by rfl):
  PI X tg (.Call (.Name "range" p) [a,b,c] [] pos) (UA ta):=by
 intro pins s σ H R I h;refine Call_ (oA I hg hm boot_range (PyProof.Rows.callWith_type1 (aV (ha pos pins s σ H _ I h) λus s1 ⟨vs,H1,I1,r1,q1⟩=>?_) hs bK));obtain⟨i,j,k,n,e,⟨c0,c1,c2,c3⟩,q⟩:=q1;subst e;cases r1 with
 |cons r rr=>
  cases rr with
  |cons r' rr=>
   cases rr with
   |cons r'' rr=>
    cases rr;obtain⟨t,rfl⟩:=r;obtain⟨t',rfl⟩:=r';obtain⟨t'',rfl⟩:=r'';refine call_range_3 c0 ?_ (.inl (PyProof.noPylong_small c1));refine wpAny_pyIter_range (IsRange.new ..) c2 ?_;have I2:Inv X pins σ H1 {s1 with heap:=s1.heap.push {cls:= .type "range",data:= .fields #[.int i t, .int j t', .int k t'']}}:=I1.kept (t':=s1.toks) λb o e=>Heap.get?_push_of_some _ e;refine zD (tk:=s1.toks) I2 _ (Uz _ i k n) ?_ q;have e1:i+((0:Nat):Int)*k=i:=by simp
    have e2:(n:Int)-((0:Nat):Int)=Builtin.Range.rangeSize i j k:=by rw[c3];simp
    show IsRangeIter _ _ (i+((0:Nat):Int)*k) ((n:Int)-((0:Nat):Int)) k;rw[e1,e2];exact Heap.get?_push_size _ U
end
theorem UC{lo c:Int}{n:Nat}{g:TG}{tb:TS}{D:Ends}{σ:St}{H:Hp}(Pv:Nat->St->Hp->Prop)(h0:Pv 0 σ H)
  (hs:∀i σ H,i<n->Pv i σ H->g (.int (lo+(i:Nat)*c)) σ H λσ2 H2=>tb {D with nx:=Pv (i+1),ct:=Pv (i+1),bk:=D.nx} σ2 H2) (hd:∀σ H,Pv n σ H->D.nx σ H):
  ∃W:Nat->Nat->St->Hp->Prop,(∃m,W 0 m σ H)/\ ∀i m σ H,W i m σ H->
   ((wq lo c n).stop i H/\ D.nx σ H)\/((wq lo c n).go i H/\ ∃N:St->Hp->Prop,(∀σ' H',N σ' H'->∃m',m'<m/\ W (i+1) m' σ' H')/\ ∀x H',(wq lo c n).j4 i H x H'->g x σ H' λσ2 H2=>tb {D with nx:=N,ct:=N,bk:=D.nx} σ2 H2):=by
 refine⟨λi m σ H=>m=n-i/\ i<=n/\ Pv i σ H,⟨n,by simp,bj _,h0⟩,?_⟩;rintro i m σ H ⟨rfl,hi,p⟩;by_cases aU:i<n
 ·refine .inr ⟨aU,Pv (i+1),λσ' H' p'=>⟨n-(i+1),by omega,U,aU,p'⟩,λx H' y=>?_⟩
  obtain⟨e,y⟩:=y;subst e y;exact hs i σ _ aU p
 ·have e:i=n:=by omega
  subst e;exact .inl ⟨aM _,hd σ H p⟩
def wu(K:PySem.W.Frag)(a:Addr)(n:Nat):It:=⟨λi H=>i<n/\ ∃(xs:List V) (x:V),ab K H a xs/\ xs[n-1-i]? =some x,λi H x H'=>H'=H/\ ∀xs,ab K H a xs->xs[n-1-i]? =some x,λi _=>n<=i⟩
theorem UD{P:Program}{w:World}{K:PySem.W.Frag}{tg:Expr}(a it:Addr)(n:Nat):Turn P w K tg (wu K a n) [it] it (λi h=>i<=n/\ h.IsRevIter it a ((n:Int)-1-(i:Nat))) where
 mem:=by simp
 obj:=λi h st b hb=>by
  have e:b=it:=by simpa using hb
  subst e;obtain⟨_,o,e,c,d⟩:=st;exact⟨o,e,λv z=>by rw[d]at z;cases z⟩
 keep:=λi h h' st k=>⟨st.1,st.2.at λo e=>k it (by simp) o e⟩
 item:=by
  intro X hP hw hK hc i pins s σ H E I hf st hg;subst hP hw hK;obtain⟨jW,xs,x,hq,hx⟩:=hg;obtain⟨ai,rv,p,hz⟩:=I.list hq;obtain⟨u,hu,ru⟩:=rv.get hx;obtain⟨f0,f1,f2,f3,f4,f5⟩:=hf it (by simp);obtain⟨_,hit⟩:=st;have e1:(n:Int)-1-((i:Nat):Int)=((n-1-i:Nat):Int):=by omega
  rw[e1]at hit;refine wpAny_pyNext_rev_item hit p.isList (x:=u) (by simpa using hu) λh' ja sb=>?_;have e2:((n-1-i:Nat):Int)-1=(n:Int)-1-((i+1:Nat):Int):=by omega
  rw[e2]at ja;have I1:Inv X pins σ H {s with heap:=h'}:=I.turned (t':=s.toks) (λb o hb e=>(sb.2 b hb).trans e) f0 f1 f3 f4 f5;obtain⟨o,e,c,d⟩:=id ja;exact⟨u,U,vS (s:={s with heap:=h'}) e c d (by decide) ⟨x,H,I1,ru,⟨U,λys hy=>by rw[I.vO hy hq];exact hx⟩,⟨jW,ja⟩,λb hb=>(hf b hb).1⟩⟩
 done:=by
  intro X hP hw hK hc i pins s σ H E I hf st hg;subst hP hw hK;obtain⟨f0,f1,f2,f3,f4,f5⟩:=hf it (by simp);obtain⟨jW,hit⟩:=st;have oP:n<=i:=hg;have e1:(n:Int)-1-((i:Nat):Int)= -1:=by omega
  rw[e1]at hit;exact wpAny_pyNext_rev_end (I.ok.hd hc) hit λh' eb=>⟨U,I.turned (t':=s.toks) (λb o hb e=>eb b o hb e) f0 f1 f3 f4 f5⟩
 self:=λA i s Q E st h=>wpAny_pyIter_revIter st.2 h
def UE(K:PySem.W.Frag)(ta:TA):TI:=λσ H R=>ta σ H λvs H1=>∃(a:Addr) (xs:List V),vs=[.ref a]/\ ab K H1 a xs/\ R (wu K a xs.length) H1
section
variable{X:Cx}{tg:Expr}
theorem K3{e:Expr}{ta:TA}{p pos:Pos}(hg:Gl X "reversed")(hm:X.mg "reversed"=none)(ha:PA X [e] ta)(hs:starEach [e] X.env=[(false,eval e X.env)]:=by rfl):PI X tg (.Call (.Name "reversed" p) [e] [] pos) (UE X.K ta):=by
 intro pins s σ H R I h;refine Call_ (oA I hg hm K2 (PyProof.Rows.callWith_type1 (aV (ha pos pins s σ H _ I h) λus s1 ⟨vs,H1,I1,r1,q1⟩=>?_) hs U));obtain⟨a,xs,e,hq,q⟩:=q1;subst e;cases r1 with
 |cons r rr=>
  cases rr;cases r;obtain⟨ai,rv,p',hz⟩:=I1.list hq;have hl:=rv.length;have e1:((ai.toArray.size:Nat):Int)-1=(xs.length:Int)-1-((0:Nat):Int):=by simp only[dJ];omega
  refine call_reversed_list p'.isList (wpAny_pyIter_revIter (l:=a) (i:=((ai.toArray.size:Nat):Int)-1) ⟨_,Heap.get?_push_size _ U,U,U⟩ ?_);refine zD (tk:=s1.toks) I1 _ (UD a _ xs.length) ⟨bj _,?_⟩ q;rw[<-e1];exact⟨_,Heap.get?_push_size _ U,U,U⟩
end
def K4(x:Str):It:=⟨λi _=>i<x.cps.size,λi H v H'=>H'=H/\ ∃c,x.cps[i]? =some c/\ v= .str ⟨#[c]⟩,λi _=>x.cps.size<=i⟩
theorem K5{P:Program}{w:World}{K:PySem.W.Frag}{tg:Expr}(it:Addr)(x:Str)(t:Tok)(ty:String)(p6:ty="str_ascii_iterator"\/ty="str_iterator"):
  Turn P w K tg (K4 x) [it] it (λi h=>h.IsStrIter it ty x t i) where
 mem:=by simp
 obj:=λi h st b hb=>by
  have e:b=it:=by simpa using hb
  subst e;obtain⟨o,e,c,d⟩:=st;exact⟨o,e,λv z=>by rw[d]at z;cases z⟩
 keep:=λi h h' st k=>let⟨o,ho,r⟩:=st;⟨o,k it (by simp) o ho,r⟩
 item:=by
  intro X hP hw hK hc i pins s σ H E I hf st hg;subst hP hw hK;obtain⟨f0,f1,f2,f3,f4,f5⟩:=hf it (by simp);have W:Walks X.prog X.w X.A it [it] [it] x.cps.size (SignAt x) (λi h=>h.IsStrIter it ty x t i):=by
   rcases p6 with e|e
   ·rw[e];exact Walks.strAscii (I.ok.hd hc) it x t
   ·rw[e];exact Walks.strWide (I.ok.hd hc) it x t
  have Cn:["enumerate","zip","dict_itemiterator","dict_reverseitemiterator","odict_iterator","itertools.zip_longest","itertools.pairwise"].contains ty=false:=by
   rcases p6 with e|e
   ·rw[e];decide
   ·rw[e];decide
  refine W.item i s _ _ hg st λv h' tk hv ja kk=>?_;obtain⟨c,u,UG,rfl⟩:=hv;have I1:Inv X pins σ H {s with heap:=h',toks:=tk}:=I.turned (λb o hb e=>kk b o (by simpa using hb) e) f0 f1 f3 f4 f5;obtain⟨oi,e,cc,dd⟩:=id ja;exact⟨_,U,vS (s:={s with heap:=h',toks:=tk}) e cc dd Cn ⟨.str ⟨#[c]⟩,H,I1,⟨u,U⟩,⟨U,c,UG,U⟩,ja,λb hb=>(hf b hb).1⟩⟩
 done:=by
  intro X hP hw hK hc i pins s σ H E I hf st hg;subst hP hw hK;obtain⟨f0,f1,f2,f3,f4,f5⟩:=hf it (by simp);have hx:x.cps[i]? =none:=Array.getElem?_eq_none hg;rcases p6 with e|e
  ·rw[e]at st
   exact wpAny_pyNext_ascii_end (I.ok.hd hc) st hx λh' eb=>⟨U,I.turned (t':=s.toks) (λb o hb e=>eb b o hb e) f0 f1 f3 f4 f5⟩
  ·rw[e]at st
   exact wpAny_pyNext_wide_end (I.ok.hd hc) st hx λh' eb=>⟨U,I.turned (t':=s.toks) (λb o hb e=>eb b o hb e) f0 f1 f3 f4 f5⟩
 self:=λA i s Q E st h=>by
  rcases p6 with e|e
  ·rw[e]at st;exact wpAny_pyIter_striter_ascii st h
  ·rw[e]at st;exact wpAny_pyIter_striter_wide st h
def UH(te:TE):TI:=λσ H R=>te σ H λv H1=>∃x,v= .str x/\ R (K4 x) H1
theorem UI{X:Cx}{tg e:Expr}{te:TE}(he:PE X e te):PI X tg e (UH te):=by
 intro pins s σ H R I h;refine aV (he pins s σ H _ I h) λv s1 ⟨y,H1,I1,r1,x,ex,q⟩=>?_;subst ex;obtain⟨t,rfl⟩:=r1;cases ha:x.cps.all (·<128)
 ·exact wpAny_pyIter_wide ha (zD (tk:=s1.toks) I1 _ (K5 _ x t "str_iterator" (.inr U)) ⟨_,Heap.get?_push_size _ U,U,U⟩ q)
 ·exact wpAny_pyIter_ascii ha (zD (tk:=s1.toks) I1 _ (K5 _ x t "str_ascii_iterator" (.inl U)) ⟨_,Heap.get?_push_size _ U,U,U⟩ q)
section
variable{prog:Program}{w:World}{A:Around}{E:Value->Shared->Prop}{s:Shared}
end
section
variable{X:Cx}{pins:List (Addr×Obj)}{σ:St}{H:Hp}{s:Shared}{d:Addr}{o:Obj}
end
section
variable{P:Program}{w:World}{K:PySem.W.Frag}{tg:Expr}{d:Addr}{o:Obj}{es:Array DictEntry}{ep:Nat}
end
section
variable{X:Cx}{tg e:Expr}{td:TE}{apos cpos:Pos}
end
def p_(K:PySem.W.Frag)(a:Addr):It:=⟨λi H=>∃(xs:List V) (x:V),ab K H a xs/\ xs[i]? =some x,λi H v H'=>∃T x,v= .ref T/\ H T=none/\ H'=upd H T (.tup [.int (i:Nat),x])/\ ∀xs,ab K H a xs->xs[i]? =some x,λi H=>∃xs:List V,ab K H a xs/\ xs.length<=i⟩
theorem UJ{P:Program}{w:World}{K:PySem.W.Frag}{elts:List Expr}{kk:Nat}{tpos:Pos}(a e it:Addr):
  Turn P w K (.Tuple elts kk tpos) (p_ K a) [e,it] e (λi h=>(∃old,IsEnum h e it ((i:Nat):Int) old)/\ h.IsListIter it a i/\ e≠it) where
 mem:=by simp
 obj:=λi h st b hb=>by
  obtain⟨⟨old,he⟩,⟨o,ho,hc,hd⟩,_⟩:=st;have e':b=e\/b=it:=by simpa using hb
  rcases e' with z|z
  ·rw[z];exact⟨_,he,λv q=>nomatch q⟩
  ·rw[z];exact⟨o,ho,λv q=>by rw[hd]at q;cases q⟩
 keep:=λi h h' st k=>let⟨⟨old,he⟩,hi,b8⟩:=st;⟨⟨old,k e (by simp) _ he⟩,hi.at λo q=>k it (by simp) o q,b8⟩
 item:=by
  intro X hP hw hK hc i pins s σ H E I hf st hg;subst hP hw hK;obtain⟨⟨old,he⟩,hit,b8⟩:=st;obtain⟨xs,x,hq,hx⟩:=hg;obtain⟨ai,rv,p,hz⟩:=I.list hq;obtain⟨u,hu,ru⟩:=rv.get hx;have oQ:e<s.heap.objs.size:=Heap.lt_size he;have BY:it<s.heap.objs.size:=by obtain⟨_,q,_⟩:=hit;exact Heap.lt_size q
  refine wpAny_pyNext_enum_item he hit p.isList (x:=u) (by simpa using hu) b8 λh' ho UK hT hsz hk=>?_;refine⟨_,U,wpAny_letOwnedTupleGo_enum (s:={s with heap:=h',toks:=s.toks+1}) ho λp7 UL sb=>?_⟩;have DG:p7.get? s.heap.objs.size=some {cls:= .type "tuple",data:= .seq #[.int i s.toks,u]}:=(sb.2 _ (Nat.ne_of_gt oQ)).trans hT;have new:dU X.prog X.w (upd H s.heap.objs.size (.tup [.int (i:Nat),x])) p7 s.heap.objs.size (.tup [.int (i:Nat),x]):=⟨by show 2<=sizeLine;decide,[.int i s.toks,u], .cons ⟨_,U⟩ (.cons ru .nil),⟨_,DG,U,_,U⟩⟩
  have I1:Inv X pins σ (upd H s.heap.objs.size (.tup [.int (i:Nat),x])) {s with heap:=p7,toks:=s.toks+1}:=I.DF (ch:=[e,it]) (λb ob hb q=>(sb.2 b (λz=>hb (by simp[z]))).trans (hk b ob (λz=>hb (by simp[z])) (λz=>hb (by simp[z])) q)) hf (aM _) new
  refine⟨.ref s.heap.objs.size,_,I1,U,⟨_,x,U,I.aK.fresh (aM _),U,λys hy=>by rw[I.vO hy hq];exact hx⟩,⟨⟨u,?_⟩,UK.at λo q=>(sb.2 it (Ne.symm b8)).trans q,b8⟩,λb hb=>?_⟩
  ·have e1:((i+1:Nat):Int)=(i:Int)+1:=by omega
   rw[e1];exact UL
  ·have wt:b<s.heap.objs.size:=by
    have e':b=e\/b=it:=by simpa using hb
    rcases e' with z|z
    ·rw[z];exact oQ
    ·rw[z];exact BY
   rw[aD (f6 wt)];exact(hf b hb).1
 done:=by intro X hP hw hK hc i pins s σ H E I hf st hg;subst hP hw hK;obtain⟨⟨old,he⟩,hit,b8⟩:=st;obtain⟨xs,hq,hx⟩:=hg;obtain⟨ai,rv,p,hz⟩:=I.list hq;obtain⟨f0,f1,f2,f3,f4,f5⟩:=hf it (by simp);have hl:=rv.length;exact wpAny_pyNext_enum_end (I.ok.hd hc) he hit p.isList (by simp;omega) λh' eb=>⟨U,I.turned (t':=s.toks) (λb o hb q=>eb b o hb q) f0 f1 f3 f4 f5⟩
 self:=λA i s Q E st h=>let⟨⟨_,he⟩,_⟩:=st;wpAny_pyIter_enum he h
def UM(K:PySem.W.Frag)(ta:TA):TI:=λσ H R=>ta σ H λvs H1=>∃a xs,vs=[.ref a]/\ ab K H1 a xs/\ R (p_ K a) H1
theorem zF{X:Cx}{e:Expr}{ta:TA}{p pos tpos:Pos}{elts:List Expr}{kk:Nat}(hg:Gl X "enumerate")(hm:X.mg "enumerate"=none)(ha:PA X [e] ta)(hs:starEach [e] X.env=[(false,eval e X.env)]:=by rfl):
  PI X (.Tuple elts kk tpos) (.Call (.Name "enumerate" p) [e] [] pos) (UM X.K ta):=by
 intro pins s σ H R I h;refine Call_ (oA I hg hm boot_enumerate (PyProof.Rows.callWith_type1 (aV (ha pos pins s σ H _ I h) λus s1 ⟨vs,H1,I1,r1,q1⟩=>?_) hs U));obtain⟨a,xs,ex,hq,q⟩:=q1;subst ex;cases r1 with
 |cons r rr=>
  cases rr;cases r;obtain⟨ai,rv,p',hz⟩:=I1.list hq;refine call_enumerate_list p'.isList λh' he hit hsz hk=>wpAny_pyIter_enum he ?_;have I2:Inv X pins σ H1 {s1 with heap:=h'}:=I1.kept (t':=s1.toks) hk;refine⟨s1.heap.objs.size+1,[s1.heap.objs.size+1,s1.heap.objs.size],_,_,H1,U,I2,UJ a (s1.heap.objs.size+1) s1.heap.objs.size,⟨⟨.none,he⟩,hit,Nat.succ_ne_self _⟩,λb hb=>?_,q⟩;have e':b=s1.heap.objs.size+1\/b=s1.heap.objs.size:=by simpa using hb
  have hle:s1.heap.objs.size<=b:=by
   rcases e' with z|z
   ·rw[z];exact u0 _ _
   ·rw[z];exact aM _
  exact I1.rE hle (I1.aK.fresh hle)
theorem UN:bootBuiltins "zip"=some (.type "zip"):=by decide+kernel
def wx(K:PySem.W.Frag)(a b:Addr):It:=
 ⟨λi H=>∃(xs ys:List V) (x y:V),ab K H a xs/\ ab K H b ys/\ xs[i]? =some x/\ ys[i]? =some y,
  λi H v H'=>∃T x y,v= .ref T/\ H T=none/\ H'=upd H T (.tup [x,y])/\ (∀xs,ab K H a xs->xs[i]? =some x)/\ ∀ys,ab K H b ys->ys[i]? =some y,
  λi H=>∃xs ys:List V,ab K H a xs/\ ab K H b ys/\ (xs.length<=i\/ys.length<=i)⟩
theorem UO{P:Program}{w:World}{K:PySem.W.Frag}{elts:List Expr}{kk:Nat}{tpos:Pos}{a b z TI TO i1 i2:Addr}(D:ZipApart z TI TO i1 i2 a b):
  Turn P w K (.Tuple elts kk tpos) (wx K a b) [z,TI,TO,i1,i2] z (λi h=>IsZip h z TI TO .none/\ IsPair h TI (.ref i1) (.ref i2)/\ (∃x y,IsPair h TO x y)/\ h.IsListIter i1 a i/\ h.IsListIter i2 b i) where
 mem:=by simp
 obj:=λi h st c hc=>by
  obtain⟨hz,hTI,⟨x,y,hTO⟩,⟨o1,e1,_,d1⟩,⟨o2,e2,_,d2⟩⟩:=st;have e':c=z\/c=TI\/c=TO\/c=i1\/c=i2:=by simpa using hc
  rcases e' with q|q|q|q|q
  ·rw[q];exact⟨_,hz,λv q=>nomatch q⟩
  ·rw[q];exact⟨_,hTI,λv q=>nomatch q⟩
  ·rw[q];exact⟨_,hTO,λv q=>nomatch q⟩
  ·rw[q];exact⟨o1,e1,λv q=>by rw[d1]at q;cases q⟩
  ·rw[q];exact⟨o2,e2,λv q=>by rw[d2]at q;cases q⟩
 keep:=λi h h' st k=>by obtain⟨hz,hTI,⟨x,y,hTO⟩,h1,h2⟩:=st;exact⟨k z (by simp) _ hz,k TI (by simp) _ hTI,⟨x,y,k TO (by simp) _ hTO⟩,h1.at λo q=>k i1 (by simp) o q,h2.at λo q=>k i2 (by simp) o q⟩
 item:=by
  intro X hP hw hK hc i pins s σ H E I hf st hg;subst hP hw hK;obtain⟨hz,hTI,⟨x0,y0,hTO⟩,h1,h2⟩:=st;obtain⟨xs,ys,x,y,ub,uc,hx,hy⟩:=hg;obtain⟨ai,rv,p,_⟩:=I.list ub;obtain⟨its2,zG,p2,_⟩:=I.list uc;obtain⟨u,hu,ru⟩:=rv.get hx;obtain⟨u2,UP,UQ⟩:=zG.get hy;have nD:z<s.heap.objs.size:=Heap.lt_size hz;refine wpAny_pyNext_zip_item D hz hTI hTO h1 h2 p.isList p2.isList (x:=u) (y:=u2) (by simpa using hu) (by simpa using UP) λh' z' UR wy pK hT hsz hk=>?_;refine⟨_,U,wpAny_letOwnedTupleGo_zip (s:={s with heap:=h'}) z' λp7 z'' sb=>?_⟩;have DG:p7.get? s.heap.objs.size=some {cls:= .type "tuple",data:= .seq #[u,u2]}:=(sb.2 _ (Nat.ne_of_gt nD)).trans hT;have new:dU X.prog X.w (upd H s.heap.objs.size (.tup [x,y])) p7 s.heap.objs.size (.tup [x,y]):=⟨by show 2<=sizeLine;decide,[u,u2], .cons ru (.cons UQ .nil),⟨_,DG,U,_,U⟩⟩
  have I1:Inv X pins σ (upd H s.heap.objs.size (.tup [x,y])) {s with heap:=p7}:=I.DF (t':=s.toks) (ch:=[z,TI,TO,i1,i2]) (λc o hb q=>(sb.2 c (λq'=>hb (by simp[q']))).trans (hk c o (λq'=>hb (by simp[q'])) (λq'=>hb (by simp[q'])) (λq'=>hb (by simp[q'])) (λq'=>hb (by simp[q'])) q)) hf (aM _) new
  refine⟨.ref s.heap.objs.size,_,I1,U,⟨_,x,y,U,I.aK.fresh (aM _),U,λl hl=>by rw[I.vO hl ub];exact hx,λl hl=>by rw[I.vO hl uc];exact hy⟩,⟨z'',?_,⟨u,u2,?_⟩,?_,?_⟩,λc zH=>?_⟩
  ·exact(sb.2 _ D.TIz).trans (hk _ _ D.TIz D.TITO D.TIi1 D.TIi2 hTI)
  ·exact(sb.2 _ D.TOz).trans UR
  ·exact wy.at λo q=>(sb.2 _ D.i1z).trans q
  ·exact pK.at λo q=>(sb.2 _ D.i2z).trans q
  ·have aU:c<s.heap.objs.size:=by
    have e':c=z\/c=TI\/c=TO\/c=i1\/c=i2:=by simpa using zH
    rcases e' with q|q|q|q|q
    ·rw[q];exact nD
    ·rw[q];exact Heap.lt_size hTI
    ·rw[q];exact Heap.lt_size hTO
    ·rw[q];obtain⟨_,e1,_⟩:=h1;exact Heap.lt_size e1
    ·rw[q];obtain⟨_,e2,_⟩:=h2;exact Heap.lt_size e2
   rw[aD (f6 aU)];exact(hf c zH).1
 done:=by
  intro X hP hw hK hc i pins s σ H E I hf st hg;subst hP hw hK;obtain⟨hz,hTI,⟨x0,y0,hTO⟩,h1,h2⟩:=st;obtain⟨xs,ys,ub,uc,DH⟩:=hg;obtain⟨ai,rv,p,_⟩:=I.list ub;obtain⟨its2,zG,p2,_⟩:=I.list uc;have l1:=rv.length;have l2:=zG.length;have he:ai.toArray[i]? =none\/its2.toArray[i]? =none:=by
   rcases DH with q|q
   ·exact .inl (by simp;omega)
   ·exact .inr (by simp;omega)
  exact wpAny_pyNext_zip_end (I.ok.hd hc) D hz hTI hTO h1 h2 p.isList p2.isList he λh' hk=>⟨U,I.Uy (t':=s.toks) (ch:=[z,TI,TO,i1,i2]) (λc o hb q=>hk c o (λq'=>hb (by simp[q'])) (λq'=>hb (by simp[q'])) (λq'=>hb (by simp[q'])) (λq'=>hb (by simp[q'])) q) hf⟩
 self:=λA i s Q E st h=>wpAny_pyIter_zip st.1 h
def US(K:PySem.W.Frag)(ta:TA):TI:=λσ H R=>ta σ H λvs H1=>∃a b xs ys,vs=[.ref a, .ref b]/\ ab K H1 a xs/\ ab K H1 b ys/\ R (wx K a b) H1
theorem K6{X:Cx}{e e2:Expr}{ta:TA}{p pos tpos:Pos}{elts:List Expr}{kk:Nat}(hg:Gl X "zip")(hm:X.mg "zip"=none)(ha:PA X [e,e2] ta)
  (hs:starEach [e,e2] X.env=(false,eval e X.env)::starEach [e2] X.env:=by rfl) (bK:(backTo pos (starEach [e2] X.env)).any (·.1)=false:=by rfl):
  PI X (.Tuple elts kk tpos) (.Call (.Name "zip" p) [e,e2] [] pos) (US X.K ta):=by
 intro pins s σ H R I h;refine Call_ (oA I hg hm UN (PyProof.Rows.callWith_type1 (aV (ha pos pins s σ H _ I h) λus s1 ⟨vs,H1,I1,r1,q1⟩=>?_) hs bK));obtain⟨a,b,xs,ys,ex,ub,uc,q⟩:=q1;subst ex;cases r1 with
 |cons r rr=>
  cases rr with
  |cons r' rr=>
   cases rr;cases r;cases r';obtain⟨ai,rv,p1,_⟩:=I1.list ub;obtain⟨its2,zG,p2,_⟩:=I1.list uc;have la:a<s1.heap.objs.size:=p1.lt;have lb:b<s1.heap.objs.size:=p2.lt;refine call_zip_2 p1.isList p2.isList λh' hz hTI hTO h1 h2 hsz hk=>wpAny_pyIter_zip hz ?_;have I2:Inv X pins σ H1 {s1 with heap:=h'}:=I1.kept (t':=s1.toks) hk;refine⟨s1.heap.objs.size+4,[s1.heap.objs.size+4,s1.heap.objs.size+2,s1.heap.objs.size+3,s1.heap.objs.size,s1.heap.objs.size+1],_,_,H1,U,I2,UO (PySem.W.ktu_apart s1.heap.objs.size a b la lb),⟨hz,hTI,⟨_,_,hTO⟩,h1,h2⟩,λc zH=>?_,q⟩;have e':c=s1.heap.objs.size+4\/c=s1.heap.objs.size+2\/c=s1.heap.objs.size+3\/c=s1.heap.objs.size\/c=s1.heap.objs.size+1:=by simpa using zH
   have hle:s1.heap.objs.size<=c:=by
    rcases e' with z|z|z|z|z
    ·rw[z];exact u0 _ _
    ·rw[z];exact u0 _ _
    ·rw[z];exact u0 _ _
    ·rw[z];exact aM _
    ·rw[z];exact u0 _ _
   exact I1.rE hle (I1.aK.fresh hle)
end L2
section
namespace Bits
open PySem PyProof.Rows
end Bits
end
section
namespace TL
open PySem PySem.Builtin PySem.Builtin.Str PySem.StrLaws
abbrev tl(x:Str):List Nat:=x.cps.toList
def pre(S l:List Nat):Bool:=l.take S.length==S
def par(S:List Nat):List Nat->List Nat->Option (List Nat×List Nat)
 |_,[]=>none
 |acc,c::r=>if pre S (c::r)=true then some (acc,(c::r).drop S.length)else par S (acc++[c]) r
end TL
end
namespace L2
open PySem PySem.Spec PyProof.Rows
section
variable{X:Cx}{pins:List (Addr×Obj)}{σ:St}{H:Hp}{s:Shared}{Q:VK}
end
section
variable{X:Cx}
end
section
variable{X:Cx}{o e:Expr}{to te:TE}
def UT(r:V->List V->Hp->VK->Prop)(to:TE):TE:=λσ H Q=>to σ H λx H1=>(∃a,x= .str a)/\ r x [] H1 Q
theorem dO{id:String}{name:Str}{apos pos:Pos}{r:V->List V->Hp->VK->Prop}(slot:Slot "str" name id)(ty:typeOf (.builtin id)=pure (.type "method_descriptor"))(rule:C6 X id r)(ho:PE X o to)
  (hbase:attributeBase o name X.env (eval o X.env)=eval o X.env:=by rfl) (hline:(apos.endLine==pos.line)=true:=by rfl):PE X (.Call (.Attribute o name apos) [] [] pos) (UT r to):=by
 intro pins s σ H Q I h;refine PySem.Call_method0 hbase hline (aV (ho pins s σ H _ I h) λv s1 ⟨x,H1,I1,r1,q1⟩=>?_);obtain⟨⟨a,rfl⟩,q1⟩:=q1;obtain⟨t,rfl⟩:=_root_.id r1;exact⟨"str",_,F.plainAttrs_str,slot,ty,typeIs_str _ _ _,(λ_ e=>nomatch e),Calls.callWith_builtin U (PySem.evalArgs_none (rule pins s1 σ H1 _ [] _ [] Q I1 r1 .nil q1))⟩
end
end L2
namespace L2
open PySem PySem.Spec PyProof.Rows
section
variable{X:Cx}
end
end L2
namespace Att
open PySem PySem.W PySem.Calls PyProof.Rows
section
variable{prog:Program}{w:World}{A:Around}{E:Value->Shared->Prop}{s:Shared}{K:Frag}
end
end Att
namespace L2
open PySem PySem.Spec PyProof.Rows
end L2
namespace L2
open PySem PySem.Spec PyProof.Rows
end L2
namespace L2
open PySem PySem.Spec PyProof.Rows
def inClass(s:Stmt)(j:Nat):Stmt:=match s with
 | .ClassDef _ _ _ body _ _ _ _ _ _ _=>body.getD j (.Pass ⟨0,0,0,0⟩)
 |_=> .Pass ⟨0,0,0,0⟩
def wz(s:Stmt):Arguments:=match s with
 | .FunctionDef _ a _ _ _ _ _ _ _ _=>a
 |_=>{posonlyargs:=[],args:=[],vararg:=none,kwonlyargs:=[],kw_defaults:=[],kwarg:=none,defaults:=[]}
def rR(s:Stmt):List Stmt:=match s with
 | .FunctionDef _ _ b _ _ _ _ _ _ _=>b
 |_=>[]
def d5(s:Stmt):Scope:=match s with
 | .FunctionDef _ _ _ _ _ _ sc _ _ _=>sc
 |_=>{kind:= .function,names:=[],isGenerator:=false,isCoroutine:=false}
abbrev rS:j7:=λ_ _ _ _ _ _=>False
abbrev E0:XK:=λ_ _ _=>False
theorem wA{X:Cx}:Passes rS X E0:=λ_ _ _ _ _ _ _ h=>h.elim
structure aG(K:PySem.W.Frag)(x qual:Str)(st:Stmt)(f:Addr)(fd:FuncData):Prop where
 ex:∃(oc:Value) (od:Option Addr) (kV doc pm:Value) (an:Option Addr) (aC ct:Value) (osl:Array (Option Value)),
  fd=PySem.W.fnOf x qual (wz st) (rR st) (d5 st) .none kV doc pm an aC ct/\ K.lookup f=some ⟨oc,od, .func fd,osl⟩/\ PySem.W.codeIn K aC qual=true
 kp:PySem.W.keepIn K (.ref f)=true
section
variable{P:Program}{w:World}{K:PySem.W.Frag}{mg:Str->Option Value}{base:Heap}
theorem aG.ok{x qual:Str}{st:Stmt}{f:Addr}{fd:FuncData}{N ps:List Str}{k:Nat}{sp:Sp}(F:aG K x qual st f fd)(S:C2 N ps (d5 st))(len:∀vs H Q E,sp vs H Q E->vs.length=ps.length)
  (hbody:∀(aC:Value) (A:Around) (outer:List Env) (s:Shared) (H:Hp) (vs:List V) (Q:VK) (E:XK),di k (A.deeper (envOfC qual (d5 st) s.heap.objs.size f aC))->sp vs H Q E->
   ∃t,jB (rP rS P w K mg base N qual (d5 st) f aC A outer s H E).oC (rR st) t/\ t {nx:=λ_ H'=>Q .aO H',rt:=Q} (start N vs) H):iu P w K mg base rS (k+1) f fd ps sp:=by
 obtain⟨oc,od,kV,doc,pm,an,aC,ct,osl,rfl,lk,kT⟩:=F.ex;refine Tu lk kT S len λA outer s H vs Q E hr nz=>?_;obtain⟨t,h,q⟩:=hbody aC A outer s H vs Q E hr nz;exact⟨t,h.oC,q⟩
theorem aG.binds{x qual:Str}{st:Stmt}{f:Addr}{fd:FuncData}{ps:List Str}(F:aG K x qual st f fd)
  (h:∀(kV doc pm:Value) (an:Option Addr) (aC ct:Value) (us:List Value),us.length=ps.length->bindArgs (PySem.W.fnOf x qual (wz st) (rR st) (d5 st) .none kV doc pm an aC ct) ⟨us,[]⟩=pure (ps.zip us)):Binds K fd ps []:=by
 obtain⟨oc,od,kV,doc,pm,an,aC,ct,osl,rfl,lk,kT⟩:=F.ex;exact .all (h kV doc pm an aC ct)
theorem UU{x qual:Str}{st:Stmt}{f:Addr}{oc:Value}{od an:Option Addr}{osl:Array (Option Value)}{kV doc pm aC ct:Value}(l:K.lookup f=some ⟨oc,od, .func (PySem.W.fnOf x qual (wz st) (rR st) (d5 st) .none kV doc pm an aC ct),osl⟩)
  (c:PySem.W.codeIn K aC qual=true) (k:PySem.W.keepIn K (.ref f)=true):aG K x qual st f (PySem.W.fnOf x qual (wz st) (rR st) (d5 st) .none kV doc pm an aC ct):=⟨⟨oc,od,kV,doc,pm,an,aC,ct,osl,U,l,c⟩,k⟩
end
theorem zI{A:Around}{k:Nat}(hr:di k A):A.units+1<cLine:=yb (Nat.add_le_add_left (by decide:1<=64) _) hr.units
theorem UW{n:Nat}(h:n<=1000):n<sizeLine:=yb h (by decide)
section
variable{X:Cx}
theorem pv(i:Nat){x:Str}{pos:Pos}(hN:X.N[i]? =some x:=by rfl)(hv:tR X.env.scope x:=by first|exact Or.inl U|exact Or.inr (Or.inl U)|exact Or.inr (Or.inr U))(hd:(x==("__debug__":Str))=false:=by decide)
  (kT:(x==("__classdict__":Str))=false:=by decide):PE X (.Name x pos) (aZ i):=Sn hN hv hd kT
theorem UX:jD X (.builtin "len") (λxs H Q=>∃a ax,xs=[V.ref a]/\ H a=some (.dK ax)/\ Q (.int ax.length) H):=by intro pins s σ H xs us Q I r h;obtain⟨a,ax,rfl,ha,q⟩:=h;obtain⟨u,rfl,ru⟩:=vals1 r;cases ru;exact Ur I (.inl ha) λt s' I'=>⟨.int ax.length,H,I',⟨t,U⟩,q⟩
end
theorem aA{A B:Prop}(h:B):if false=true then A else B:=by rw[if_neg fL];exact h
theorem aJ{A B:Prop}(h:A):if true=true then A else B:=by rw[if_pos U];exact h
theorem b9{c A B:Prop}[Decidable c](h1:c->A)(h2:¬c->B):if c then A else B:=by
 by_cases h:c
 ·rw[if_pos h]
  exact h1 h
 ·rw[if_neg h]
  exact h2 h
def aa(H H':Hp):Prop:=∀b o,H b=some o->H' b=some o
theorem aa.refl(H:Hp):aa H H:=λ_ _ h=>h
theorem aa.trans{H H1 H2:Hp}(a:aa H H1)(b:aa H1 H2):aa H H2:=λc o h=>b c o (a c o h)
theorem aa.free{H H':Hp}(e:aa H H'){l:Addr}(h:H' l=Option.none):H l=Option.none:=by
 cases q:H l with
 |none=>rfl
 |some o=>rw[e l o q]at h;cases h
theorem aa.seq{K:PySem.W.Frag}{H H':Hp}{a:Addr}{xs:List V}(e:aa H H')(h:ab K H a xs):ab K H' a xs:=by
 rcases h with(h|⟨o,h⟩)|h
 ·exact .inl (.inl (e _ _ h))
 ·exact .inl (.inr ⟨o,e _ _ h⟩)
 ·exact .inr h
section
variable{κ:Type}[DecidableEq κ]
theorem UY{ax:List (κ×V)}{k:κ}(h:gA ax k=none):¬k∈ax.map (·.1):=by intro m;obtain⟨p,hp,e⟩:=c9.mp m;have q:(ax.any λkv=>decide (kv.1=k))=true:=List.any_eq_true.mpr ⟨p,hp,decide_eq_true e⟩;rw[wm,h]at q;exact absurd q (by simp)
theorem UZ{ax:List (κ×V)}{k:κ}{v:V}(h:gA ax k=some v):k∈ax.map (·.1):=by
 have q:(ax.any λkv=>decide (kv.1=k))=true:=by
  rw[wm,h]
  all_goals rfl
 obtain⟨p,hp,e⟩:=List.any_eq_true.mp q;exact c9.mpr ⟨p,hp,of_decide_eq_true e⟩
theorem K7:∀{l:List κ} {k:κ},l.Nodup->¬k∈l->(l++[k]).Nodup
 |[],k,_,_=>by simp
 |a::r,k,h,hk=>by
  obtain⟨h1,h2⟩:=fq.mp h;show(a::(r++[k])).Nodup;refine fq.mpr ⟨λm=>?_,K7 h2 λm=>hk (a_.mpr (Or.inr m))⟩;rcases cN.mp m with q|q
  ·exact h1 q
  ·exact hk (a_.mpr (Or.inl (List.mem_singleton.mp q).symm))
end
theorem at_of{xs:List V}{z:Int}{j:Nat}{v:V}(e:z=(j:Int))(h:xs[j]? =some v):gi xs z=some v:=by rw[e];exact bH h
theorem U0{α:Type}{l:List α}(hN:l.Nodup){i j:Nat}{x:α}(a:l[i]? =some x)(b:l[j]? =some x):i=j:=by obtain⟨h1,e1⟩:=cP.mp a;obtain⟨h2,e2⟩:=cP.mp b;exact(xW hN).mp (e1.trans e2.symm)
end L2
end
section
set_option maxHeartbeats 2000000
namespace L2
open PySem PySem.Spec PyProof.Rows
open PySem.W (WData Codec OpenSpec Well WellAll ReadsW ReadsAllW)
mutual
inductive Dw(K:PySem.W.Frag)(H:Hp):V->WData->Prop
 |aO:Dw K H .aO .none
 |bl (b:Bool):Dw K H (.bl b) (.bool b)
 |int (i:Int):Dw K H (.int i) (.int i)
 |str (x:Str):Dw K H (.str x) (.str x)
 |iN (b:Array UInt8):Dw K H (.iN b) (.bytes b.toList)
 |lst {a:Addr} {xs:List V} {ds:List WData}:ab K H a xs->k9 K H xs ds->Dw K H (.ref a) (.list ds)
 |tup {a:Addr} {xs:List V} {ds:List WData}:bz K H a xs->k9 K H xs ds->Dw K H (.ref a) (.tuple ds)
inductive k9(K:PySem.W.Frag)(H:Hp):List V->List WData->Prop
 |nil:k9 K H [] []
 |cons {v:V} {vs:List V} {d:WData} {ds:List WData}:Dw K H v d->k9 K H vs ds->k9 K H (v::vs) (d::ds)
end
theorem K8{K:PySem.W.Frag}{H:Hp}:∀ns:List Int,k9 K H (ns.map V.int) (ns.map WData.int)
 |[]=> .nil
 |n::r=> .cons (.int n) (K8 r)
theorem K9{K:PySem.W.Frag}{H:Hp}:∀(ns:List Int) (xs:List V),k9 K H xs (ns.map WData.int)->xs=ns.map V.int
 |[],xs,h=>by
  cases h;rfl
 |n::r,xs,h=>by
  cases h with
  |cons h1 h2=>
   cases h1;rw[K9 r _ h2]<;>rfl
section
variable{P:Program}{w:World}{K:PySem.W.Frag}{H:Hp}{h:Heap}{R:PySem.W.WRecords}{cl:Str->Option Addr}
theorem U1{a:Addr}{xs:List V}(aK:du P w H h)(KX:K.In h)(q:ab K H a xs):∃(ai:List Value) (o:Obj) (n:Nat),Vals xs ai/\ h.get? a=some o/\ o.cls= .type "list"/\ o.data= .seq ai.toArray n:=by
 rcases q with q|⟨o,ai,n,e,hc,_,hd,_,hv⟩
 ·obtain⟨_,ai,n,hv,e⟩:=(show dU P w H h a (.lst xs)from q.ok aK)
  exact⟨ai,_,n,hv,e,U,U⟩
 ·exact⟨ai.toList,o,n,hv,KX _ _ e,hc,by simp[hd]⟩
theorem U2{a:Addr}{xs:List V}(aK:du P w H h)(KX:K.In h)(q:bz K H a xs):∃(ai:List Value) (o:Obj) (n:Nat),Vals xs ai/\ h.get? a=some o/\ o.cls= .type "tuple"/\ o.data= .seq ai.toArray n:=by
 rcases q with q|⟨o,ai,n,e,hc,hd,_,hv⟩
 ·obtain⟨_,ai,hv,o,e,hc,n,hd⟩:=(show dU P w H h a (.tup xs)from q.ok aK)
  exact⟨ai,o,n,hv,e,hc,hd⟩
 ·exact⟨ai.toList,o,n,hv,KX _ _ e,hc,by simp[hd]⟩
mutual
theorem Dw.reads(aK:du P w H h)(KX:K.In h):∀(d:WData) (v:V) (u:Value),Dw K H v d->RelV v u->∃as,ReadsW R cl h u d as
 | .none,_,_,x,r=>by
  cases x;cases r;exact⟨_,ReadsW.none⟩
 | .bool b,_,_,x,r=>by
  cases x;cases r;exact⟨_,ReadsW.bool b⟩
 | .int i,_,_,x,r=>by
  cases x;obtain⟨t,rfl⟩:=r;exact⟨_,ReadsW.int i t⟩
 | .str s,_,_,x,r=>by
  cases x;obtain⟨t,rfl⟩:=r;exact⟨_,ReadsW.str s t⟩
 | .bytes b,_,_,x,r=>by
  cases x;obtain⟨t,rfl⟩:=r;exact⟨_,ReadsW.bytes _ t⟩
 | .list ds,_,_,x,r=>by
  cases x with
  |lst hs ha=>
   cases r;obtain⟨ai,o,n,rv,ho,hc,hd⟩:=U1 aK KX hs;obtain⟨as,hr⟩:=Dw.readsAll aK KX ds _ ai ha rv;exact⟨_,ReadsW.list ho hc hd hr⟩
 | .tuple ds,_,_,x,r=>by
  cases x with
  |tup hs ha=>
   cases r;obtain⟨ai,o,n,rv,ho,hc,hd⟩:=U2 aK KX hs;obtain⟨as,hr⟩:=Dw.readsAll aK KX ds _ ai ha rv;exact⟨_,ReadsW.tuple ho hc hd hr⟩
 | .float _,_,_,x,_| .dict _,_,_,x,_| .bytearray _,_,_,x,_| .set _,_,_,x,_| .frozenset _,_,_,x,_| .obj _ _,_,_,x,_=>by cases x
theorem Dw.readsAll(aK:du P w H h)(KX:K.In h):∀(ds:List WData) (vs:List V) (us:List Value),k9 K H vs ds->Vals vs us->∃as,ReadsAllW R cl h us ds as
 |[],_,_,x,r=>by
  cases x;cases r;exact⟨_,ReadsAllW.nil⟩
 |d::ds,_,_,x,r=>by
  cases x with
  |cons h1 h2=>
   cases r with
   |cons r1 r2=>obtain⟨as,q1⟩:=Dw.reads aK KX d _ _ h1 r1;obtain⟨bs,q2⟩:=Dw.readsAll aK KX ds _ _ h2 r2;exact⟨_,ReadsAllW.cons q1 q2⟩
end
end
mutual
def jG:WData->Bool
 | .none| .bool _| .int _| .str _| .bytes _=>true
 | .list xs| .tuple xs=>ml xs
 |_=>false
def ml:List WData->Bool
 |[]=>true
 |x::r=>jG x&&ml r
end
theorem K_{α:Type}{f:α->WData}(h:∀a,jG (f a)=true):∀l:List α,ml (l.map f)=true
 |[]=>rfl
 |x::r=>by show(jG (f x)&&ml (r.map f))=true;rw[h x,K_ h r]<;>rfl
theorem qa:∀(c:Codec) (a:c.denote),jG (c.enc a)=true
 | .unit,_| .bool,_| .int _ _,_| .nat _ _,_| .u8,_| .bytes _ _,_| .text _ _ _ _,_=>rfl
 | .list _ _ c,a=>K_ (λx=>qa c x) a
 | .pair c d,a=>by show(jG (c.enc a.1)&&(jG (d.enc a.2)&&true))=true;rw[qa c a.1,qa d a.2]<;>rfl
 | .triple c d e,a=>by show(jG (c.enc a.1)&&(jG (d.enc a.2.1)&&(jG (e.enc a.2.2)&&true)))=true;rw[qa c a.1,qa d a.2.1,qa e a.2.2]<;>rfl
 | .option c,none=>rfl
 | .option c,some x=>qa c x
theorem K':∀(cs:List Codec) (a:Codec.denoteAll cs),ml (Codec.encAll cs a)=true
 |[],_=>rfl
 |c::cs,a=>by show(jG (c.enc a.1)&&ml (Codec.encAll cs a.2))=true;rw[qa c a.1,K' cs a.2]<;>rfl
theorem DI:∀{xs:List WData} {d:WData},d∈xs->d.weight<=WData.weightAll xs
 |[],d,h=>absurd h (by simp)
 |x::r,d,h=>by
  show d.weight<=x.weight+1+WData.weightAll r;rcases a_.mp h with e|m
  ·rw[e]
   omega
  ·have z:=DI m
   omega
def toV:Value->V
 | .none=> .aO
 | .bool b=> .bl b
 | .int i _=> .int i
 | .str x _=> .str x
 | .bytes b _=> .iN b
 | .ref a=> .ref a
 |_=> .aO
def j8(A:List Addr):Value->Prop
 | .none| .bool _| .int _ _| .str _ _| .bytes _ _=>True
 | .ref a=>a∈A
 |_=>False
theorem j8.mono{A B:List Addr}(h:∀a∈A,a∈B):∀{u:Value},j8 A u->j8 B u:=λ{u} x=>by
 cases u with
 |ref a=>exact h a x
 |none|bool b|int i t|str s t|bytes b t=>trivial
 |_=>exact False.elim x
theorem U3{A:List Addr}{u:Value}(x:j8 A u):RelV (toV u) u:=by
 cases u with
 |ref a|none|bool b=>rfl
 |int i t|str s t|bytes b t=>exact⟨t,U⟩
 |_=>exact False.elim x
theorem ud{A:List Addr}:∀{vs:List Value},(∀u∈vs,j8 A u)->Vals (vs.map toV) vs
 |[],_=> .nil
 |u::r,h=> .cons (U3 (h u (gC ..))) (ud λx hx=>h x (fe _ hx))
def k_(h:Heap)(A:List Addr)(a:Addr):Prop:=∃vs:List Value,vs.length<=sizeLine/\ (∀u∈vs,j8 A u)/\
 (h.get? a=some {cls:= .type "list",data:= .seq vs.toArray}\/h.get? a=some {cls:= .type "tuple",data:= .seq vs.toArray})
theorem k_.mono{h:Heap}{A B:List Addr}{a:Addr}(k:∀a∈A,a∈B)(x:k_ h A a):k_ h B a:=by obtain⟨vs,h1,h2,h3⟩:=x;exact⟨vs,h1,λu hu=>(h2 u hu).mono k,h3⟩
theorem zJ{P:Params}{h:Heap}:∀{vs:List Value} {ds:List WData},WellAll P h vs ds->vs.length=ds.length
 |_,_, .nil=>rfl
 |_,_, .cons _ b=>by show _+1=_+1;rw[zJ b]
theorem La{P:Params}{h:Heap}{v:Value}{ds:List WData}(x:Well P h v (.list ds)):∃(a:Addr) (vs:List Value),v= .ref a/\ h.get? a=some {cls:= .type "list",data:= .seq vs.toArray}/\ WellAll P h vs ds:=by
 cases x with
 |list ho fw=>exact⟨_,_,U,ho,fw⟩
theorem Lb{P:Params}{h:Heap}{v:Value}{ds:List WData}(x:Well P h v (.tuple ds)):∃(a:Addr) (vs:List Value),v= .ref a/\ h.get? a=some {cls:= .type "tuple",data:= .seq vs.toArray}/\ WellAll P h vs ds:=by
 cases x with
 |tuple ho fw=>exact⟨_,_,U,ho,fw⟩
theorem Lc{P:Params}{h:Heap}{us:List Value}{d:WData}{ds:List WData}(x:WellAll P h us (d::ds)):∃(v:Value) (vs:List Value),us=v::vs/\ Well P h v d/\ WellAll P h vs ds:=by
 cases x with
 |cons a b=>exact⟨_,_,U,a,b⟩
theorem Ld{n:Nat}(h:n<=1048576):n<=sizeLine:=cO h (by decide)
section
variable{P:Params}{h:Heap}
mutual
theorem U4:∀(d:WData) (v:Value),Well P h v d->jG d=true->d.weight<=1048576->∃A:List Addr,j8 A v/\ ∀a∈A,k_ h A a
 | .none,_,x,_,_| .bool b,_,x,_,_| .int i,_,x,_,_| .str s,_,x,_,_| .bytes b,_,x,_,_=>by
  cases x;exact⟨[],trivial,λa m=>absurd m (by simp)⟩
 | .list ds,_,x,p,z=>by
  obtain⟨a,vs,rfl,ho,fw⟩:=La x;have z2:WData.weightAll ds<=1048576:=z;obtain⟨A,h1,h2⟩:=zK ds _ fw p λd hd=>cO (DI hd) z2;have k:∀b∈A,b∈a::A:=λb hb=>fe _ hb;refine⟨a::A,gC ..,λb hb=>?_⟩;rcases a_.mp hb with e|m
  ·rw[e]
   exact⟨vs,Ld (by rw[zJ fw];exact cO (PySem.W.length_le_weightAllW ds) z2),λu hu=>(h1 u hu).mono k, .inl ho⟩
  ·exact(h2 b m).mono k
 | .tuple ds,_,x,p,z=>by
  obtain⟨a,vs,rfl,ho,fw⟩:=Lb x;have z2:WData.weightAll ds<=1048576:=z;obtain⟨A,h1,h2⟩:=zK ds _ fw p λd hd=>cO (DI hd) z2;have k:∀b∈A,b∈a::A:=λb hb=>fe _ hb;refine⟨a::A,gC ..,λb hb=>?_⟩;rcases a_.mp hb with e|m
  ·rw[e]
   exact⟨vs,Ld (by rw[zJ fw];exact cO (PySem.W.length_le_weightAllW ds) z2),λu hu=>(h1 u hu).mono k, .inr ho⟩
  ·exact(h2 b m).mono k
 | .float _,_,_,p,_| .dict _,_,_,p,_| .bytearray _,_,_,p,_| .set _,_,_,p,_| .frozenset _,_,_,p,_| .obj _ _,_,_,p,_=>Bool.noConfusion (show false=true from p)
theorem zK:∀(ds:List WData) (vs:List Value),WellAll P h vs ds->ml ds=true->(∀d∈ds,d.weight<=1048576)->∃A:List Addr,(∀u∈vs,j8 A u)/\ ∀a∈A,k_ h A a
 |[],_,x,_,_=>by
  cases x;exact⟨[],λu m=>absurd m (by simp),λa m=>absurd m (by simp)⟩
 |d::ds,_,x,p,z=>by
  obtain⟨v,vs,rfl,x1,x2⟩:=Lc x;have q:jG d=true/\ ml ds=true:=Bool.and_eq_true_iff.mp p;obtain⟨A,a1,a2⟩:=U4 d v x1 q.1 (z d (gC ..));obtain⟨B,b1,b2⟩:=zK ds vs x2 q.2 λe he=>z e (fe _ he);have kA:∀b∈A,b∈A++B:=λb hb=>cN.mpr (.inl hb);have kB:∀b∈B,b∈A++B:=λb hb=>cN.mpr (.inr hb);refine⟨A++B,λu hu=>?_,λb hb=>?_⟩
  ·rcases a_.mp hu with e|m
   ·rw[e]
    exact a1.mono kA
   ·exact(b1 u m).mono kB
  ·rcases cN.mp hb with m|m
   ·exact(a2 b m).mono kA
   ·exact(b2 b m).mono kB
end
end
def zL(o:Obj):Option HO:=match o.data with
 | .seq vs _=>if(o.cls==Value.type "list")=true then some (.fS o (.lst (vs.toList.map toV)))else some (.fS o (.tup (vs.toList.map toV)))
 |_=>none
def gB(K:PySem.W.Frag)(h:Heap)(A:List Addr):Hp:=λb=>if b∈A then(if(K.lookup b).isNone=true then(h.get? b).bind zL else none)else none
def wB(H:Hp):Prop:=∀b,H b=none\/∃o u,H b=some (.fS o u)
theorem Le(vs:List Value):zL {cls:= .type "list",data:= .seq vs.toArray}=some (.fS {cls:= .type "list",data:= .seq vs.toArray} (.lst (vs.map toV))):=by show(if(Value.type "list"==Value.type "list")=true then some (HO.fS {cls:= .type "list",data:= .seq vs.toArray} (.lst (vs.toArray.toList.map toV)))else some (HO.fS {cls:= .type "list",data:= .seq vs.toArray} (.tup (vs.toArray.toList.map toV))))=_;rw[if_pos (beq_self_eq_true _)]
theorem Lg(vs:List Value):zL {cls:= .type "tuple",data:= .seq vs.toArray}=some (.fS {cls:= .type "tuple",data:= .seq vs.toArray} (.tup (vs.map toV))):=by show(if(Value.type "tuple"==Value.type "list")=true then some (HO.fS {cls:= .type "tuple",data:= .seq vs.toArray} (.lst (vs.toArray.toList.map toV)))else some (HO.fS {cls:= .type "tuple",data:= .seq vs.toArray} (.tup (vs.toArray.toList.map toV))))=_;rw[if_neg (by decide)]
section
variable{P:Program}{w:World}{K:PySem.W.Frag}{h:Heap}{A:List Addr}
theorem zM{b:Addr}{o:Obj}(hb:b∈A)(hk:K.lookup b=none)(e:h.get? b=some o):gB K h A b=zL o:=by unfold gB;rw[if_pos hb,hk,if_pos (show(none:Option Obj).isNone=true from rfl),e]<;>rfl
theorem U5{b:Addr}{u:HO}(q:gB K h A b=some u):b∈A/\ K.lookup b=none:=by
 unfold gB at q;by_cases hb:b∈A
 ·rw[if_pos hb]at q
  cases hk:K.lookup b with
  |none=>exact⟨hb,U⟩
  |some o=>rw[hk,if_neg (by simp)]at q;cases q
 ·rw[if_neg hb]at q
  cases q
theorem zN(ar:∀a∈A,k_ h A a){b:Addr}{u:HO}(q:gB K h A b=some u):K.lookup b=none/\ ∃vs:List Value,vs.length<=sizeLine/\ (∀u∈vs,j8 A u)/\
  ((h.get? b=some {cls:= .type "list",data:= .seq vs.toArray}/\ u= .fS {cls:= .type "list",data:= .seq vs.toArray} (.lst (vs.map toV)))\/
   (h.get? b=some {cls:= .type "tuple",data:= .seq vs.toArray}/\ u= .fS {cls:= .type "tuple",data:= .seq vs.toArray} (.tup (vs.map toV)))):=by
 obtain⟨hb,hk⟩:=U5 q;obtain⟨vs,h1,h2,h3⟩:=ar b hb;refine⟨hk,vs,h1,h2,?_⟩;rcases h3 with e|e
 ·rw[zM hb hk e,Le]at q
  exact .inl ⟨e,(ay q).symm⟩
 ·rw[zM hb hk e,Lg]at q
  exact .inr ⟨e,(ay q).symm⟩
theorem U6(ar:∀a∈A,k_ h A a):wB (gB K h A):=λb=>by
 cases q:gB K h A b with
 |none=>exact .inl U
 |some u=>
  obtain⟨_,vs,_,_,⟨_,e⟩|⟨_,e⟩⟩:=zN ar q
  ·exact .inr ⟨_,_,by rw[e]⟩
  ·exact .inr ⟨_,_,by rw[e]⟩
theorem U7(ar:∀a∈A,k_ h A a):du P w (gB K h A) h:=λb u q=>by
 obtain⟨_,vs,h1,h2,⟨e,rfl⟩|⟨e,rfl⟩⟩:=zN ar q
 ·exact⟨e,by rw[aI];exact h1,vs,_,ud h2,e⟩
 ·exact⟨e,by rw[aI];exact h1,vs,ud h2,_,e,U,_,U⟩
theorem zO{c c':Value}{vs us:List Value}(e:(some {cls:=c,data:= .seq vs.toArray}:Option Obj)=some {cls:=c',data:= .seq us.toArray}):c=c'/\ vs=us:=by have e1:=ay e;have e2:c=c':=congrArg Obj.cls e1;have e3:Data.seq vs.toArray=Data.seq us.toArray:=congrArg Obj.data e1;injection e3 with e4;refine⟨e2,?_⟩;have e5:=congrArg Array.toList e4;simpa using e5
theorem U8(KX:K.In h)(ar:∀a∈A,k_ h A a){a:Addr}{vs:List Value}(ha:a∈A)(e:h.get? a=some {cls:= .type "list",data:= .seq vs.toArray}):(∀u∈vs,j8 A u)/\ ab K (gB K h A) a (vs.map toV):=by
 obtain⟨us,h1,h2,h3⟩:=ar a ha;have hu:us=vs:=by
  rcases h3 with q|q
  ·rw[e]at q
   exact(zO q).2.symm
  ·rw[e]at q
   exact absurd (Value.type.inj (zO q).1) (by decide)
 subst hu;refine⟨h2,?_⟩;cases hk:K.lookup a with
 |none=>exact .inl (.inr ⟨_,by rw[zM ha hk e,Le]⟩)
 |some o=>have e2:=KX a o hk;rw[e]at e2;obtain rfl:=ay e2;exact .inr ⟨_,us.toArray,_,hk,U,U,U,by rw[dJ];exact h1,by simpa using ud h2⟩
theorem U9(KX:K.In h)(ar:∀a∈A,k_ h A a){a:Addr}{vs:List Value}(ha:a∈A)(e:h.get? a=some {cls:= .type "tuple",data:= .seq vs.toArray}):(∀u∈vs,j8 A u)/\ bz K (gB K h A) a (vs.map toV):=by
 obtain⟨us,h1,h2,h3⟩:=ar a ha;have hu:us=vs:=by
  rcases h3 with q|q
  ·rw[e]at q
   exact absurd (Value.type.inj (zO q).1) (by decide)
  ·rw[e]at q
   exact(zO q).2.symm
 subst hu;refine⟨h2,?_⟩;cases hk:K.lookup a with
 |none=>exact .inl (.inr ⟨_,by rw[zM ha hk e,Lg]⟩)
 |some o=>have e2:=KX a o hk;rw[e]at e2;obtain rfl:=ay e2;exact .inr ⟨_,us.toArray,_,hk,U,U,by rw[dJ];exact h1,by simpa using ud h2⟩
mutual
theorem U_{Pm:Params}(KX:K.In h)(ar:∀a∈A,k_ h A a):∀(d:WData) (v:Value),Well Pm h v d->jG d=true->j8 A v->Dw K (gB K h A) (toV v) d
 | .none,_,x,_,_=>by
  cases x;exact .aO
 | .bool b,_,x,_,_=>by
  cases x;exact .bl b
 | .int i,_,x,_,_=>by
  cases x;exact .int i
 | .str s,_,x,_,_=>by
  cases x;exact .str s
 | .bytes b,_,x,_,_=>by
  cases x;have z:=Dw.iN (K:=K) (H:=gB K h A) b.toArray;exact z
 | .list ds,_,x,p,hu=>by obtain⟨a,vs,rfl,ho,fw⟩:=La x;obtain⟨h2,hs⟩:=U8 KX ar hu ho;exact .lst hs (pJ KX ar ds _ fw p h2)
 | .tuple ds,_,x,p,hu=>by obtain⟨a,vs,rfl,ho,fw⟩:=Lb x;obtain⟨h2,hs⟩:=U9 KX ar hu ho;exact .tup hs (pJ KX ar ds _ fw p h2)
 | .float _,_,_,p,_| .dict _,_,_,p,_| .bytearray _,_,_,p,_| .set _,_,_,p,_| .frozenset _,_,_,p,_| .obj _ _,_,_,p,_=>Bool.noConfusion (show false=true from p)
theorem pJ{Pm:Params}(KX:K.In h)(ar:∀a∈A,k_ h A a):∀(ds:List WData) (vs:List Value),WellAll Pm h vs ds->ml ds=true->(∀u∈vs,j8 A u)->k9 K (gB K h A) (vs.map toV) ds
 |[],_,x,_,_=>by
  cases x;exact .nil
 |d::ds,_,x,p,hu=>by obtain⟨v,vs,rfl,x1,x2⟩:=Lc x;have q:jG d=true/\ ml ds=true:=Bool.and_eq_true_iff.mp p;exact .cons (U_ KX ar d v x1 q.1 (hu _ (gC ..))) (pJ KX ar ds vs x2 q.2 λu m=>hu u (fe _ m))
end
end
theorem U'{P:Program}{w:World}{K:PySem.W.Frag}{mg mb:Str->Option Value}{CX:j7}{k:Nat}{fa:Addr}{fd:FuncData}{ps:List Str}{sp:Sp}{s₁:Shared}{vals:List Value}{ds:List WData}{R:PySem.W.WRecords}{cl:Str->Option Addr}{d0:WData}
  (KX:K.In s₁.heap) (j9:s₁.heap.Ns mainGlobals mg) (hb:s₁.heap.Ns builtinsNs mb) (Va:∀x:Str,x≠"__name__"->mb x=bootBuiltins x) (Vb:s₁.heap.NoLimit) (hg:s₁.gens= #[])
  (j_:WellAll w.params s₁.heap vals ds) (bK:ml ds=true) (Vc:∀d∈ds,d.weight<=1048576) (hr:di k callerA)
  (F:∀base:Heap,K.In base->base.Ns mainGlobals mg->iu P w K mg base CX k fa fd ps sp) (hbind:∀(s:Shared) (us:List Value),us.length=ps.length->BindsTo s fd ⟨us,[]⟩ (ps.zip us)) (hlen:ds.length=ps.length)
  (nz:∀(H:Hp) (xs:List V),wB H->k9 K H xs ds->sp xs H (λv H'=>Dw K H' v d0) λ_ _ _=>False)
  (hCX:∀H e s',CX [] H s₁ (λ_ _ _=>False) e s'->False):
  codeAny (model P w) callerA (.call (.ref fa) ⟨vals,[]⟩) (λr s'=>∃u as,r= .ok (.ret u)/\ ReadsW R cl s'.heap u d0 as/\ OldK s₁.heap s'.heap/\ s'.os=s₁.os/\ AllBare s'.gens) s₁:=by
 obtain⟨A,ho,ar⟩:=zK ds vals j_ bK Vc;have hO:wB (gB K s₁.heap A):=U6 ar;have aK:du P w (gB K s₁.heap A) s₁.heap:=U7 ar;have hS:=pJ KX ar ds vals j_ bK ho;have hV:=ud ho;have hK:∀b u,gB K s₁.heap A b=some u->K.lookup b=none:=λb u q=>(zN ar q).1;have noA:∀{b:Addr} {o:Obj} {es:Array DictEntry} {ep:Nat},s₁.heap.get? b=some o->o.data= .dict es ep->gB K s₁.heap A b=none:=λ{b o es ep} e d=>by
  cases q:gB K s₁.heap A b with
  |none=>rfl
  |some u=>
   obtain⟨_,vs,_,_,⟨e2,_⟩|⟨e2,_⟩⟩:=zN ar q
   ·rw[e2]at e
    cases e;have d':Data.seq vs.toArray _=Data.dict es ep:=d;cases d'
   ·rw[e2]at e
    cases e;have d':Data.seq vs.toArray _=Data.dict es ep:=d;cases d'
 generalize gB K s₁.heap A=H at hO aK hS hK noA;have base_of:∀{b:Addr} {o:Obj},s₁.heap.get? b=some o->H b=none->(oz s₁.heap H).get? b=some o:=λe n=>Sf e n;have nsK:∀{b:Addr} {m:Str->Option Value},s₁.heap.Ns b m->(oz s₁.heap H).Ns b m:=λ{b m} ⟨o,es,ep,e,d,r⟩=>⟨o,es,ep,base_of e (noA e d),d,r⟩
 have nK:∀b o,K.lookup b=some o->H b=none:=λb o e=>by
  cases q:H b with
  |none=>rfl
  |some u=>rw[hK b u q]at e;cases e
 have hKb:K.In (oz s₁.heap H):=λb o e=>base_of (KX b o e) (nK b o e);have hM:Mod K mg (oz s₁.heap H):=⟨hKb,nsK j9,⟨mb,nsK hb,Va⟩,let⟨mc,h1,h2⟩:=Vb;⟨mc,nsK h1,h2⟩⟩
 have e0:ny P w K mg (oz s₁.heap H) callerA [] s₁ H:=⟨U,hM,λb o e=>Sg e,x_ (Se _ _),trivial,λb hb=>absurd (show b∈([]:List Addr)from hb) (by simp),aK, .of_eq hg⟩
 have hl:vals.length=ps.length:=by rw[zJ j_];exact hlen
 refine codeAny_mono ((F _ hKb (nsK j9)).run callerA [] s₁ H ⟨vals,[]⟩ vals (vals.map toV) _ _ hr e0 (hbind s₁ vals hl) hV (nz H _ hO hS)) λr s' x=>?_;cases r with
 |error e=>exact(hCX H e s' x).elim
 |ok fl=>
  cases fl with
  |next|brk|cont=>exact False.elim x
  |ret u=>
   obtain⟨v,H',os,bare,un,Lh,r',q⟩:=x;have kept:∀b o,s₁.heap.get? b=some o->s'.heap.get? b=some o:=λb o e=>by
    cases q2:H b with
    |none=>exact un.keep b o e q2 (by intro z;exact absurd (show b∈([]:List Addr)from z) (by simp)) (by simp)
    |some u2=>
     rcases hO b with z|⟨ob,u3,z⟩
     ·rw[q2]at z
      cases z
     ·have z2:=un.jZ b ob _ z
      obtain⟨e1,_⟩:=aK b _ z;obtain⟨e2,_⟩:=Lh b _ z2;rw[e]at e1;cases e1;exact e2
   have Vd:K.In s'.heap:=λb o e=>kept b o (KX b o e);obtain⟨as,pP⟩:=Dw.reads (R:=R) (cl:=cl) Lh Vd d0 v u q r';exact⟨u,as,U,pP,OldK.of_keep kept,os,bare⟩
theorem Ve{ds:List WData}(h:WData.layableAll ds=true):∀d∈ds,d.weight<=1048576:=λd hd=>(PySem.W.layableW_iff.mp (iC.mp h d hd)).2.2
theorem m_:∀(cs:List Codec) (a:Codec.denoteAll cs),(Codec.encAll cs a).length=cs.length
 |[],_=>rfl
 |c::cs,a=>by show(Codec.encAll cs a.2).length+1=cs.length+1;rw[m_ cs a.2]
theorem Vf{r:OpenSpec}{k:Nat}{q:Program}{loose:List Str}{XP:(Str->Option Value)->Heap->Prop}{YP:World->Heap->Prop}{d:DefRec}{K:Params->PySem.W.Frag}{CX:World->j7}{ps:List Str}{sp:World->Sp}
  (hwell:r.wellSaid=true) (Li:d.params.defaults=[]) (hlen:r.args.length=ps.length) (hr:di k callerA)
  (hY:∀(w:World) (h:Heap),YP w h->(K w.params).In h)
  (F:∀(w:World) (mg:Str->Option Value) (fa:Addr) (h:Heap),YP w h->(K w.params).In h->h.Ns mainGlobals mg->mg d.name=some (.ref fa)->
   ∃fd:FuncData,(∀(s:Shared) (us:List Value),us.length=ps.length->BindsTo s fd ⟨us,[]⟩ (ps.zip us))/\
    ∀base:Heap,(K w.params).In base->base.Ns mainGlobals mg->iu r.prog w (K w.params) mg base (CX w) k fa fd ps (sp w))
  (nz:∀(w:World) (H:Hp) (xs:List V) (a:Codec.denoteAll r.args),wB H->Codec.withinAll r.args a=true->Codec.app r.args r.asked a=true->k9 (K w.params) H xs (Codec.encAll r.args a)->
   sp w xs H (λv H'=>Dw (K w.params) H' v (r.ret.enc (Codec.app r.args r.f a))) λ_ _ _=>False)
  (hCX:∀(w:World) (H:Hp) (s:Shared) (e:Value) (s':Shared),CX w [] H s (λ_ _ _=>False) e s'->False):
  PySem.W.WalkOS q loose XP YP r d [] (λf vs=>PySem.call f vs):=by
 intro w gd s₁ mg mb G Y fa o pm cd doc dV kV ho hd kT hD DJ hg args vals as Vg Vh pP j_ hlo;obtain⟨a,e1,e2⟩:=PySem.W.os_pre_some Vg;obtain⟨e3,zP⟩:=Codec.encAll_of_decAll r.args args a e1;subst e3;have KX:=hY w _ Y;obtain⟨fd,hb,hF⟩:=F w mg fa _ Y KX G.T.g DJ;refine PySem.W.enter_call (codeAny_mono (U' (R:=[]) (cl:=classAt gd.heap) (d0:=r.ret.enc (Codec.app r.args r.f a)) KX G.T.g G.T.b G.T.builtins G.T.nolimit hg j_ (K' _ _) (Ve Vh) hr hF hb (by rw[m_];exact hlen)
  (λH xs hO hS=>nz w H xs a hO zP e2 hS) λH e s'=>hCX w H s₁ e s') λr' s' hq=>?_)
 obtain⟨u,Vi,rfl,h1,h2,h3,h4⟩:=hq;exact⟨.inl ⟨u,_,Vi,U,λ_=>rfl,h1,(OpenSpec.post_iff hwell zP _ _).mpr U,λz=>Bool.noConfusion (show false=true from z)⟩,h2,h3,h4⟩
theorem Vj{r:OpenSpec}{k:Nat}{q:Program}{loose:List Str}{XP:(Str->Option Value)->Heap->Prop}{YP:World->Heap->Prop}{d:DefRec}{K:Params->PySem.W.Frag}{CX:j7}{ps:List Str}{sp:PySem.W.Frag->Sp}
  (hwell:r.wellSaid=true) (Li:d.params.defaults=[]) (hlen:r.args.length=ps.length) (hr:di k callerA)
  (hY:∀(w:World) (h:Heap),YP w h->(K w.params).In h)
  (F:∀(w:World) (mg:Str->Option Value) (fa:Addr) (h:Heap),YP w h->(K w.params).In h->h.Ns mainGlobals mg->mg d.name=some (.ref fa)->
   ∃fd:FuncData,(∀(s:Shared) (us:List Value),us.length=ps.length->BindsTo s fd ⟨us,[]⟩ (ps.zip us))/\
    ∀base:Heap,(K w.params).In base->base.Ns mainGlobals mg->iu r.prog w (K w.params) mg base CX k fa fd ps (sp (K w.params)))
  (nz:∀(K:PySem.W.Frag) (H:Hp) (xs:List V) (a:Codec.denoteAll r.args),wB H->Codec.withinAll r.args a=true->Codec.app r.args r.asked a=true->k9 K H xs (Codec.encAll r.args a)->
   sp K xs H (λv H'=>Dw K H' v (r.ret.enc (Codec.app r.args r.f a))) λ_ _ _=>False)
  (hCX:∀(H:Hp) (s:Shared) (e:Value) (s':Shared),CX [] H s (λ_ _ _=>False) e s'->False):
  PySem.W.WalkOS q loose XP YP r d [] (λf vs=>PySem.call f vs):=
 Vf (K:=K) (CX:=λ_=>CX) (sp:=λw=>sp (K w.params)) hwell Li hlen hr hY F (λw H xs a h1 h2 h3 h4=>nz (K w.params) H xs a h1 h2 h3 h4) λ_ H s e s'=>hCX H s e s'
end L2
end
namespace PP
open PySem PySem.Spec PyProof.Rows L2 PM
open Vaneta (Formula Text Name isSmall isWord isName cutAt multiplicative nodes form deep paren Token dual inBounds)
open Vanetc (isDigit formulas partsOf together switchings pars rootsFrom decimal countParts)
open Vanetg (below junctions comesOut tellLeaf passages theLeaf withSwitches toldPlace placesOf does allLong switchAt behindUp given)
section
variable{α β γ:Type}{R S:α->β->Prop}
theorem qb:∀{a c:List α} {b d:List β},Paired R a b->Paired R c d->Paired R (a++c) (b++d)
 |_,_,_,_, .nil,h=>h
 |_,_,_,_, .cons x t,h=> .cons x (qb t h)
theorem qc{x:α}{y:β}(h:R x y):Paired R [x] [y]:= .cons h .nil
theorem ke{a:List α}{b:List β}{x:α}{y:β}(h:Paired R a b)(hx:R x y):Paired R (a++[x]) (b++[y]):=qb h (qc hx)
theorem bO:∀{a:List α} {b:List β},(∀x y,R x y->S x y)->Paired R a b->Paired S a b
 |_,_,_, .nil=> .nil
 |_,_,f, .cons x t=> .cons (f _ _ x) (bO f t)
theorem ck:∀{a:List α} {b:List β},Paired R a b->a.length=b.length
 |_,_, .nil=>rfl
 |_,_, .cons _ t=>by simp[ck t]
theorem fB:∀{a:List α} {b:List β} {i:Nat} {x:α},Paired R a b->a[i]? =some x->∃y,b[i]? =some y/\ R x y
 |_,_,_,_, .nil,e=>by simp at e
 |_,_,0,_, .cons r _,e=>by have e:=ay e;subst e;exact⟨_,U,r⟩
 |_,_,i+1,x, .cons _ t,e=>fB (i:=i) t e
theorem oR:∀{a:List α} {b:List β} {i:Nat} {y:β},Paired R a b->b[i]? =some y->∃x,a[i]? =some x/\ R x y
 |_,_,_,_, .nil,e=>by simp at e
 |_,_,0,_, .cons r _,e=>by have e:=ay e;subst e;exact⟨_,U,r⟩
 |_,_,i+1,x, .cons _ t,e=>oR (i:=i) t e
theorem DK{a:List α}{b:List β}(h:Paired R a b):Paired R a.reverse b.reverse:=by
 induction h with
 |nil=>exact .nil
 |cons r t ih=>simp only[u4];exact ke ih r
theorem ue:∀{a:List α} {b:List β} {y:β},Paired R a (b++[y])->∃c x,a=c++[x]/\ Paired R c b/\ R x y
 |_,[],_, .cons r .nil=>⟨[],_,U, .nil,r⟩
 |_,z::b,y, .cons r t=>by obtain⟨c,x,e,h1,h2⟩:=ue (b:=b) t;exact⟨_::c,x,by rw[e];rfl, .cons r h1,h2⟩
end
theorem aa.new{H:Hp}{p:Addr}{o:HO}(h:H p=none):aa H (upd H p o):=λb q e=>by rw[aD (bS e h)];exact e
noncomputable def Wo (P:Addr->Prop) (H:Hp):Hp:=λb=>open Classical in if P b then none else H b
theorem cR{P:Addr->Prop}{H:Hp}{b:Addr}(h:¬P b):Wo P H b=H b:=by unfold Wo;rw[if_neg h]
theorem Lj{P:Addr->Prop}{H:Hp}{b:Addr}(h:P b):Wo P H b=none:=by unfold Wo;rw[if_pos h]
theorem iT{P:Addr->Prop}{H:Hp}{b:Addr}{o:HO}(h:Wo P H b=some o):¬P b/\ H b=some o:=by
 unfold Wo at h;split at h
 ·cases h
 ·exact⟨by assumption,h⟩
theorem bB(P:Addr->Prop)(H:Hp):aa (Wo P H) H:=λb o e=>(iT e).2
theorem qd{P:Addr->Prop}{H H':Hp}(s:∀b o,H b=some o->¬P b->H' b=some o):aa (Wo P H) (Wo P H'):=λb o e=>by obtain⟨h1,h2⟩:=iT e;rw[cR h1];exact s b o h2 h1
theorem bV{P:Addr->Prop}{H H':Hp}(s:aa H H'):aa (Wo P H) (Wo P H'):=qd λb o e _=>s b o e
theorem zQ{P P':Addr->Prop}{H:Hp}(h:∀b,P b->P' b):aa (Wo P' H) (Wo P H):=λb o e=>by obtain⟨h1,h2⟩:=iT e;rw[cR λc=>h1 (h b c)];exact h2
theorem dP{P:Addr->Prop}{H:Hp}{l:Addr}{o:HO}(h:P l):Wo P (upd H l o)=Wo P H:=by
 funext b;by_cases hb:P b
 ·rw[Lj hb,Lj hb]
 ·rw[cR hb,cR hb,aD]
  intro e;subst e;exact hb h
def Hid(P:Addr->Prop)(H:Hp):Prop:=∀b,P b->H b≠none
theorem Hid.mono{P:Addr->Prop}{H H':Hp}(h:Hid P H)(s:aa H H'):Hid P H':=λb hb e=>by
 cases q:H b with
 |none=>exact h b hb q
 |some o=>rw[s b o q]at e;cases e
theorem Hid.upd{P:Addr->Prop}{H:Hp}{p:Addr}{o:HO}(h:Hid P H):Hid P (upd H p o):=λb hb e=>by
 by_cases c:b=p
 ·subst c;rw[ae]at e;cases e
 ·rw[aD c]at e;exact h b hb e
theorem Hid.not{P:Addr->Prop}{H:Hp}{p:Addr}(h:Hid P H)(e:H p=none):¬P p:=λc=>h p c e
theorem Hid.none(H:Hp):Hid (λ_=>False) H:=λ_ h=>h.elim
def aL(P:Addr->Prop)(l:Addr):Addr->Prop:=λb=>P b\/b=l
theorem Hid.lh{P:Addr->Prop}{H:Hp}{l:Addr}{o:HO}(h:Hid P H)(e:H l=some o):Hid (aL P l) H:=λb hb=>by
 rcases hb with hb|rfl
 ·exact h b hb
 ·rw[e];intro z;cases z
theorem mn(H:Hp):Wo (λ_=>False) H=H:=by funext b;exact cR (λh=>h)
def bI(b:UInt8):V:= .int (b.toNat:Int)
def bG(H:Hp)(v:V)(t:Text):Prop:=∃a,v= .ref a/\ H a=some (.lst (t.map bI))
def zR(H:Hp)(v:V)(t:Name):Prop:=∃a,v= .ref a/\ H a=some (.tup (t.map bI))
def bZ(H:Hp)(v:V)(x:Node):Prop:=∃a u,v= .ref a/\ H a=some (.tup [.int (x.1:Int),u])/\ zR H u x.2
def cS{α:Type}(R:Hp->V->α->Prop)(H:Hp)(v:V)(l:List α):Prop:=∃a vs,v= .ref a/\ H a=some (.lst vs)/\ Paired (R H) vs l
abbrev cT:=cS bZ
def dj(H:Hp)(v:V)(A:Formula):Prop:=Vaneta.multiplicative A=true/\ cT H v (enc A)
def d6(H:Hp)(v:V)(x:Nat×Nat):Prop:=∃a,v= .ref a/\ H a=some (.tup [.int (x.1:Int), .int (x.2:Int)])
abbrev eP{α:Type}(R:Hp->V->α->Prop):Prop:=∀(H H':Hp) (v:V) (x:α),aa H H'->R H v x->R H' v x
theorem bG.mono:eP bG:=λ_ _ _ _ s ⟨a,e,h⟩=>⟨a,e,s _ _ h⟩
theorem zR.mono:eP zR:=λ_ _ _ _ s ⟨a,e,h⟩=>⟨a,e,s _ _ h⟩
theorem bZ.mono:eP bZ:=λ_ _ _ _ s ⟨a,u,e,h,n⟩=>⟨a,u,e,s _ _ h,zR.mono _ _ _ _ s n⟩
theorem cS.mono{α:Type}{R:Hp->V->α->Prop}(m:eP R):eP (cS R):=λ_ _ _ _ s ⟨a,vs,e,h,p⟩=>⟨a,vs,e,s _ _ h,bO (λ_ _ r=>m _ _ _ _ s r) p⟩
theorem dj.mono:eP dj:=λ_ _ _ _ s ⟨h,n⟩=>⟨h,cS.mono bZ.mono _ _ _ _ s n⟩
theorem d6.mono:eP d6:=λ_ _ _ _ s ⟨a,e,h⟩=>⟨a,e,s _ _ h⟩
section
variable{X:Cx}{x:Str}{pos:Pos}
theorem Vk{i:Int}(hg:Gl X x)(hm:∃t,X.mg x=some (Value.int i t))(hd:(x==("__debug__":Str))=false:=by decide):PE X (.Name x pos) (tC (.int i)):=by obtain⟨t,h⟩:=hm;exact CK hg h ⟨t,U⟩ hd
theorem Vl{i:Str}(hg:Gl X x)(hm:∃t,X.mg x=some (Value.str i t))(hd:(x==("__debug__":Str))=false:=by decide):PE X (.Name x pos) (tC (.str i)):=by obtain⟨t,h⟩:=hm;exact CK hg h ⟨t,U⟩ hd
theorem Vm{a:Addr}(hg:Gl X x)(hm:X.mg x=some (.ref a))(hd:(x==("__debug__":Str))=false:=by decide):PE X (.Name x pos) (tC (.ref a)):=CK hg hm U hd
end
theorem Vn:bootBuiltins "ord"=some (.builtin "ord"):=by first|rfl|decide+kernel
theorem Vo:bootBuiltins "max"=some (.builtin "max"):=by first|rfl|decide+kernel
theorem DL:bootBuiltins "all"=some (.builtin "all"):=by first|rfl|decide+kernel
theorem Vp:bootBuiltins "tuple"=some (.type "tuple"):=by first|rfl|decide+kernel
theorem DM:bootBuiltins "list"=some (.type "list"):=by first|rfl|decide+kernel
theorem Lk:bootBuiltins "str"=some (.type "str"):=by first|rfl|decide+kernel
theorem dk{n:Nat}(h:n<=100000):n<sizeLine:=yb h (by decide)
theorem fC{n:Nat}(h:n<=1000000):n<=sizeLine:=cO h (by decide)
theorem e9{P:Addr->Prop}{H:Hp}{p:Addr}{o:HO}(hP:Hid P H)(hp:H p=none):Wo P (upd H p o) p=some o:=by rw[cR (hP.not hp),ae]
theorem qe{P:Addr->Prop}{H H':Hp}{D:Addr}(hD:H D=none)(s:aa H H'):aa (Wo P H) (Wo (aL P D) H'):=λb o e=>by obtain⟨h1,h2⟩:=iT e;rw[cR (by rintro(c|c);exact h1 c;exact bS h2 hD c)];exact s _ _ h2
theorem qg{P:Addr->Prop}{H:Hp}{D:Addr}:aa (Wo (aL P D) H) (Wo P H):=zQ λb hb=> .inl hb
section
variable{X:Cx}{K:PySem.W.Frag}{e:Expr}{f:Str}{pos:Pos}{ta:TE}
theorem Vq(hK:X.K=K):vY X (vZ K):=by subst hK;exact Kz
theorem Vr(hK:X.K=K):vY X (fU K):=by subst hK;exact Kx
theorem Vs(hK:X.K=K):dN X (compareOp .In) (C9 K false):=by subst hK;exact zr
theorem zS{es:List Expr}{k:Nat}{t:pW}{n:Nat}(hK:X.K=K)(hc:X.calm=true)(h:vP X es t)(hn:(assignEach es X.env).length=n:=by rfl)(cD:(assignEach es X.env).findIdx? (·.1)=none:=by rfl):PG X (.Tuple es k pos) (vQ K n t):=by subst hK;exact CO hc h hn cD
theorem Vt(hK:X.K=K)(he:PE X e ta)(hb:attributeBase e f X.env (eval e X.env)=eval e X.env):PE X (.Attribute e f pos) (ir K ta f):=by subst hK;exact Kj he hb
end
theorem Ll{c A:Prop}[Decidable c]{k:L2.St->Hp->Prop}{σ:L2.St}{H:Hp}(good:L2.St->Hp->Prop)(hk:∀σ' H',good σ' H'->k σ' H')(h1:c->(∀σ' H',good σ' H'->k σ' H')->A)(h2:¬c->good σ H):if c then A else k σ H:=by
 by_cases h:c
 ·rw[if_pos h];exact h1 h hk
 ·rw[if_neg h];exact hk _ _ (h2 h)
theorem bT{x:V}{r:List V}:gi (x::r) 0=some x:=bH (j:=0) U
theorem fO{x y:V}{r:List V}:gi (x::y::r) 1=some y:=bH (j:=1) U
theorem at2{x y z:V}{r:List V}:gi (x::y::z::r) 2=some z:=bH (j:=2) U
theorem c5{H H':Hp}{p:Addr}{o:HO}(s:aa H H')(h:H p=none):aa H (upd H' p o):=λb q e=>by rw[aD (bS e h)];exact s b q e
theorem Lm{α β:Type}(g:α->Option β):∀(l:List α) (k:Nat) (m:List α),m.drop k=l->(List.range' k l.length).filterMap (λi=>m[i]?.bind g)=l.filterMap g
 |[],_,_,_=>rfl
 |a::r,k,m,h=>by
  have h0:m[k]? =some a:=by
   have e:(m.drop k)[0]? =some a:=by rw[h];rfl
   rw[nX]at e;exact e
  have h1:m.drop (k+1)=r:=by rw[<-sP,h];rfl
  rw[aX,qL,iF,iF,h0,Lm g r (k+1) m h1];rfl
theorem Vu{α β:Type}(g:α->Option β)(l:List α):(List.range l.length).filterMap (λi=>l[i]?.bind g)=l.filterMap g:=by rw[oh];exact Lm g l 0 l U
theorem DN{β:Type}{J:It}{n:Nat}{g:TG}{tt:TT}{te:TE}{vs:List Nat}{σ:L2.St}{H1:Hp}{D:Addr}{Qd:Hp->Prop}(P:Addr->Prop)(R:Hp->V->β->Prop)(mR:eP R)(f:Nat->Option β)(hD:H1 D=none)(hP:Hid P H1)(hn:n<=100000)
  (iU:∀i H,aa H1 H->i<n->J.go i H) (hstop:∀H,aa H1 H->J.stop n H)
  (hs:∀i H x H',i<n->aa H1 H->Hid (aL P D) H->J.j4 i H x H'->∀(Ky:V->Hp->Prop) (Kn:Hp->Prop),(∀z v H4,f i=some z->aa H H4->R (Wo (aL P D) H4) v z->Ky v H4)->(∀H4,f i=none->aa H H4->Kn H4)->
   g x (wipe σ vs) H' λσ2 H2=>wipe σ2 vs=wipe σ vs/\ tt σ2 H2 λb H3=>if b=true then te σ2 H3 Ky else Kn H3)
  (hd:∀H acc,aa H1 H->H D=some (.lst acc)->Hid (aL P D) H->Paired (R (Wo (aL P D) H)) acc ((List.range n).filterMap f)->Qd H):
  ∃W:Nat->Nat->Hp->Prop,(∃m,W 0 m (upd H1 D (.lst [])))/\ ∀i m H,W i m H->
   (J.stop i H/\ Qd H)\/(J.go i H/\ ∃Nx:Hp->Prop,(∀H',Nx H'->∃m',m'<m/\ W (i+1) m' H')/\ ∀x H',J.j4 i H x H'->g x (wipe σ vs) H' λσ2 H2=>wipe σ2 vs=wipe σ vs/\ tt σ2 H2 λb H3=>if b=true then te σ2 H3 λy H4=>∃acc,H4 D=some (.lst acc)/\ acc.length<sizeLine/\ Nx (upd H4 D (.lst (acc++[y])))else Nx H3):=by
 have Vv:(aL P D) D:= .inr U;refine⟨λi m H=>m=n-i/\ i<=n/\ aa H1 H/\ Hid (aL P D) H/\ ∃acc,H D=some (.lst acc)/\ acc.length<=i/\ Paired (R (Wo (aL P D) H)) acc ((List.range i).filterMap f),⟨n,by simp,bj _,aa.new hD,(hP.mono (aa.new hD)).lh ae,[],ae,aM _, .nil⟩,?_⟩;rintro i m H ⟨rfl,hi,sm,aH,acc,cH,hlen,bh⟩;by_cases aU:i<n
 ·refine .inr ⟨iU i H sm aU,λH'=>aa H1 H'/\ Hid (aL P D) H'/\ ∃acc,H' D=some (.lst acc)/\ acc.length<=i+1/\ Paired (R (Wo (aL P D) H')) acc ((List.range (i+1)).filterMap f),λH' p'=>⟨n-(i+1),by omega,U,aU,p'⟩,λx H' y=>?_⟩
  refine hs i H x H' aU sm aH y _ _ (λz v H4 hz s4 r4=>?_) λH4 hz s4=>?_
  ·refine⟨acc,s4 _ _ cH,dk (by omega),c5 (sm.trans s4) hD,(aH.mono s4).upd,acc++[v],ae,by simp;omega,?_⟩
   rw[sT,uY,dP Vv];refine qb (bO (λ_ _ r=>mR _ _ _ _ (bV s4) r) bh) ?_;rw[iF,hz];exact qc r4
  ·refine⟨sm.trans s4,aH.mono s4,acc,s4 _ _ cH,by omega,?_⟩
   rw[sT,uY,iF,hz];rw[List.filterMap_nil,iD];exact bO (λ_ _ r=>mR _ _ _ _ (bV s4) r) bh
 ·have e:i=n:=by omega
  subst e;exact .inl ⟨hstop H sm,hd H acc sm cH aH bh⟩
theorem Ln{K:PySem.W.Frag}{a:Addr}{xs:List V}{tb:TS}{D:Ends}{σ:L2.St}{H:Hp}(i j:Nat)(Pv:Nat->L2.St->Hp->Prop)(h0:Pv 0 σ H)(hl:∀k σ H,k<=xs.length->Pv k σ H->ab K H a xs)
  (hs:∀(k:Nat) x σ H T,xs[k]? =some x->Pv k σ H->H T=none->tb {D with nx:=Pv (k+1),ct:=Pv (k+1),bk:=D.nx} ((σ.set i (some (.int (k:Int)))).set j (some x)) (upd H T (.tup [.int (k:Int),x]))) (hd:∀σ H,Pv xs.length σ H->D.nx σ H):
  ∃W:Nat->Nat->L2.St->Hp->Prop,(∃m,W 0 m σ H)/\ ∀k m σ H,W k m σ H->
   ((p_ K a).stop k H/\ D.nx σ H)\/((p_ K a).go k H/\ ∃N:L2.St->Hp->Prop,(∀σ' H',N σ' H'->∃m',m'<m/\ W (k+1) m' σ' H')/\ ∀x H',(p_ K a).j4 k H x H'->vQ K 2 (rD (ik i) (rD (ik j) za)) x σ H' λσ2 H2=>tb {D with nx:=N,ct:=N,bk:=D.nx} σ2 H2):=by
 refine⟨λk m σ H=>m=xs.length-k/\ k<=xs.length/\ Pv k σ H,⟨xs.length,by simp,bj _,h0⟩,?_⟩;rintro k m σ H ⟨rfl,hk,p⟩;have q:=hl k σ H hk p;by_cases aU:k<xs.length
 ·refine .inr ⟨⟨xs,xs[k],q,by simp[aU]⟩,Pv (k+1),λσ' H' p'=>⟨xs.length-(k+1),by omega,U,aU,p'⟩,λx H' y=>?_⟩
  obtain⟨T,z,rfl,hT,rfl,y⟩:=y;exact⟨T,_,U,bz.of ae,U,_,_,U,_,_,U,U,hs k z σ H T (y xs q) p hT⟩
 ·have e:k=xs.length:=by omega
  subst e;exact .inl ⟨⟨xs,q,aM _⟩,hd σ H p⟩
theorem Lo{K:PySem.W.Frag}{a:Addr}{xs:List V}{g:TG}{tb:TS}{D:Ends}{σ:L2.St}{H:Hp}(Pv:Nat->L2.St->Hp->Prop)(h0:Pv 0 σ H)(hl:∀i σ H,i<=xs.length->Pv i σ H->ab K H a xs)
  (hs:∀i x σ H,xs.reverse[i]? =some x->Pv i σ H->g x σ H λσ2 H2=>tb {D with nx:=Pv (i+1),ct:=Pv (i+1),bk:=D.nx} σ2 H2) (hd:∀σ H,Pv xs.length σ H->D.nx σ H):
  ∃W:Nat->Nat->L2.St->Hp->Prop,(∃m,W 0 m σ H)/\ ∀i m σ H,W i m σ H->
   ((wu K a xs.length).stop i H/\ D.nx σ H)\/((wu K a xs.length).go i H/\ ∃N:L2.St->Hp->Prop,(∀σ' H',N σ' H'->∃m',m'<m/\ W (i+1) m' σ' H')/\ ∀x H',(wu K a xs.length).j4 i H x H'->g x σ H' λσ2 H2=>tb {D with nx:=N,ct:=N,bk:=D.nx} σ2 H2):=by
 refine⟨λi m σ H=>m=xs.length-i/\ i<=xs.length/\ Pv i σ H,⟨xs.length,by simp,bj _,h0⟩,?_⟩;rintro i m σ H ⟨rfl,hi,p⟩;have q:=hl i σ H hi p;by_cases aU:i<xs.length
 ·have hr:∀x,xs[xs.length-1-i]? =some x->xs.reverse[i]? =some x:=λx hx=>by rw[xS aU];exact hx
  refine .inr ⟨⟨aU,xs,xs[xs.length-1-i],q,by rw[br (by omega)]⟩,Pv (i+1),λσ' H' p'=>⟨xs.length-(i+1),by omega,U,aU,p'⟩,λx H' y=>?_⟩;obtain⟨e,y⟩:=y;subst e;exact hs i x σ _ (hr x (y xs q)) p
 ·have e:i=xs.length:=by omega
  subst e;exact .inl ⟨aM _,hd σ H p⟩
theorem oS{α β:Type}{K:PySem.W.Frag}{a:Addr}{xs:List V}{g:TG}{tt:TT}{te:TE}{vs:List Nat}{σ:L2.St}{H1:Hp}{D:Addr}{Qd:Hp->Prop}(P:Addr->Prop)(R:Hp->V->β->Prop)(mR:eP R)(data:List α)(f:α->Option β)(hD:H1 D=none)(hP:Hid P H1)(hn:xs.length<=100000)
  (hl:ab K H1 a xs) (hlen:xs.length=data.length)
  (hs:∀(i:Nat) H x y,xs[i]? =some x->data[i]? =some y->aa H1 H->Hid (aL P D) H->∀(Ky:V->Hp->Prop) (Kn:Hp->Prop),(∀z v H4,f y=some z->aa H H4->R (Wo (aL P D) H4) v z->Ky v H4)->(∀H4,f y=none->aa H H4->Kn H4)->
   g x (wipe σ vs) H λσ2 H2=>wipe σ2 vs=wipe σ vs/\ tt σ2 H2 λb H3=>if b=true then te σ2 H3 Ky else Kn H3)
  (hd:∀H acc,aa H1 H->H D=some (.lst acc)->Hid (aL P D) H->Paired (R (Wo (aL P D) H)) acc (data.filterMap f)->Qd H):
  ∃W:Nat->Nat->Hp->Prop,(∃m,W 0 m (upd H1 D (.lst [])))/\ ∀i m H,W i m H->
   ((pX K a).stop i H/\ Qd H)\/((pX K a).go i H/\ ∃Nx:Hp->Prop,(∀H',Nx H'->∃m',m'<m/\ W (i+1) m' H')/\ ∀x H',(pX K a).j4 i H x H'->g x (wipe σ vs) H' λσ2 H2=>wipe σ2 vs=wipe σ vs/\ tt σ2 H2 λb H3=>if b=true then te σ2 H3 λy H4=>∃acc,H4 D=some (.lst acc)/\ acc.length<sizeLine/\ Nx (upd H4 D (.lst (acc++[y])))else Nx H3):=by
 refine DN (n:=xs.length) P R mR (λi=>data[i]?.bind f) hD hP hn (λi H s hi=>⟨xs,xs[i],s.seq hl,by simp[hi]⟩) (λH s=>⟨xs,s.seq hl,aM _⟩) ?_ ?_
 ·rintro i H x H' hi s aH ⟨rfl,y⟩ Ky Kn h1 h2
  have hy:data[i]? =some (data[i]'(by omega)):=br (by omega);refine hs i _ x _ (y xs (s.seq hl)) hy s aH Ky Kn (λz v H4 e=>h1 z v H4 (by rw[hy];exact e)) λH4 e=>h2 H4 (by rw[hy];exact e)
 ·intro H acc s h aH hp
  rw[hlen,Vu]at hp;exact hd H acc s h aH hp
theorem Lp{α β:Type}{K:PySem.W.Frag}{a:Addr}{xs:List V}{tt:TT}{te:TE}{vs:List Nat}{σ:L2.St}{H1:Hp}{D:Addr}{Qd:Hp->Prop}{i j:Nat}(P:Addr->Prop)(R:Hp->V->β->Prop)(mR:eP R)(data:List α)(f:Nat->α->Option β)(hD:H1 D=none)(hP:Hid P H1)(hn:xs.length<=100000)
  (hl:ab K H1 a xs) (hlen:xs.length=data.length) (hw:∀u v,wipe (((wipe σ vs).set i u).set j v) vs=wipe σ vs)
  (hs:∀(k:Nat) H x y,xs[k]? =some x->data[k]? =some y->aa H1 H->Hid (aL P D) H->∀(Ky:V->Hp->Prop) (Kn:Hp->Prop),(∀z v H4,f k y=some z->aa H H4->R (Wo (aL P D) H4) v z->Ky v H4)->(∀H4,f k y=none->aa H H4->Kn H4)->
   tt (((wipe σ vs).set i (some (.int (k:Int)))).set j (some x)) H λb H3=>if b=true then te (((wipe σ vs).set i (some (.int (k:Int)))).set j (some x)) H3 Ky else Kn H3)
  (hd:∀H acc,aa H1 H->H D=some (.lst acc)->Hid (aL P D) H->Paired (R (Wo (aL P D) H)) acc ((List.range data.length).filterMap λk=>data[k]?.bind (f k))->Qd H):
  ∃W:Nat->Nat->Hp->Prop,(∃m,W 0 m (upd H1 D (.lst [])))/\ ∀k m H,W k m H->
   ((p_ K a).stop k H/\ Qd H)\/((p_ K a).go k H/\ ∃Nx:Hp->Prop,(∀H',Nx H'->∃m',m'<m/\ W (k+1) m' H')/\ ∀x H',(p_ K a).j4 k H x H'->vQ K 2 (rD (ik i) (rD (ik j) za)) x (wipe σ vs) H' λσ2 H2=>wipe σ2 vs=wipe σ vs/\ tt σ2 H2 λb H3=>if b=true then te σ2 H3 λy H4=>∃acc,H4 D=some (.lst acc)/\ acc.length<sizeLine/\ Nx (upd H4 D (.lst (acc++[y])))else Nx H3):=by
 refine DN (n:=xs.length) P R mR (λk=>data[k]?.bind (f k)) hD hP hn (λi H s hi=>⟨xs,xs[i],s.seq hl,by simp[hi]⟩) (λH s=>⟨xs,s.seq hl,aM _⟩) ?_ ?_
 ·rintro k H x H' hk s aH ⟨T,z,rfl,hT,rfl,y⟩ Ky Kn h1 h2
  have hy:data[k]? =some (data[k]'(by omega)):=br (by omega);have s':aa H (upd H T (.tup [.int (k:Int),z])):=aa.new hT;refine⟨T,_,U,bz.of ae,U,_,_,U,_,_,U,U,hw _ _,?_⟩;exact hs k _ z _ (y xs (s.seq hl)) hy (s.trans s') aH.upd Ky Kn (λz v H4 e s4 r=>h1 z v H4 (by rw[hy];exact e) (s'.trans s4) r) λH4 e s4=>h2 H4 (by rw[hy];exact e) (s'.trans s4)
 ·intro H acc s h aH hp
  rw[hlen]at hp;exact hd H acc s h aH hp
theorem Lq{α γ β:Type}{K:PySem.W.Frag}{a b:Addr}{xs ys:List V}{tt:TT}{te:TE}{vs:List Nat}{σ:L2.St}{H1:Hp}{D:Addr}{Qd:Hp->Prop}{i j:Nat}(P:Addr->Prop)(R:Hp->V->β->Prop)(mR:eP R)(f:Nat->Option β)(hD:H1 D=none)(hP:Hid P H1)(hn:xs.length<=100000)
  (hl:ab K H1 a xs) (fh:ab K H1 b ys) (hlen:xs.length=ys.length) (hw:∀u v,wipe (((wipe σ vs).set i u).set j v) vs=wipe σ vs)
  (hs:∀(k:Nat) H x y,xs[k]? =some x->ys[k]? =some y->aa H1 H->Hid (aL P D) H->∀(Ky:V->Hp->Prop) (Kn:Hp->Prop),(∀z v H4,f k=some z->aa H H4->R (Wo (aL P D) H4) v z->Ky v H4)->(∀H4,f k=none->aa H H4->Kn H4)->
   tt (((wipe σ vs).set i (some x)).set j (some y)) H λb H3=>if b=true then te (((wipe σ vs).set i (some x)).set j (some y)) H3 Ky else Kn H3)
  (hd:∀H acc,aa H1 H->H D=some (.lst acc)->Hid (aL P D) H->Paired (R (Wo (aL P D) H)) acc ((List.range xs.length).filterMap f)->Qd H):
  ∃W:Nat->Nat->Hp->Prop,(∃m,W 0 m (upd H1 D (.lst [])))/\ ∀k m H,W k m H->
   ((wx K a b).stop k H/\ Qd H)\/((wx K a b).go k H/\ ∃Nx:Hp->Prop,(∀H',Nx H'->∃m',m'<m/\ W (k+1) m' H')/\ ∀x H',(wx K a b).j4 k H x H'->vQ K 2 (rD (ik i) (rD (ik j) za)) x (wipe σ vs) H' λσ2 H2=>wipe σ2 vs=wipe σ vs/\ tt σ2 H2 λb H3=>if b=true then te σ2 H3 λy H4=>∃acc,H4 D=some (.lst acc)/\ acc.length<sizeLine/\ Nx (upd H4 D (.lst (acc++[y])))else Nx H3):=by
 refine DN (n:=xs.length) P R mR f hD hP hn (λi H s hi=>⟨xs,ys,xs[i],ys[i]'(by omega),s.seq hl,s.seq fh,by simp[hi],by simp[show i<ys.length by omega]⟩) (λH s=>⟨xs,ys,s.seq hl,s.seq fh, .inl (aM _)⟩) ?_ hd;rintro k H x H' hk s aH ⟨T,z,z',rfl,hT,rfl,y,y'⟩ Ky Kn h1 h2;have s':aa H (upd H T (.tup [z,z'])):=aa.new hT;refine⟨T,_,U,bz.of ae,U,_,_,U,_,_,U,U,hw _ _,?_⟩;exact hs k _ z z' (y xs (s.seq hl)) (y' ys (s.seq fh)) (s.trans s') aH.upd Ky Kn (λz v H4 e s4 r=>h1 z v H4 e (s'.trans s4) r) λH4 e s4=>h2 H4 e (s'.trans s4)
theorem uf(xs:List V){i j:Nat}(h:i<=j)(hj:j<=xs.length):fT xs (some (i:Int)) (some (j:Int))=(xs.drop i).take (j-i):=by unfold fT;rw[HT.vV,HT.vV,u5 hj,u5 (cO h hj)]
theorem Lr(xs:List V){i:Nat}(h:i<=xs.length):fT xs (some (i:Int)) none=xs.drop i:=by unfold fT;rw[HT.vV,HT.Tv,u5 h,pF (by simp)]
structure Gd(P:Program)(w:World)(K:PySem.W.Frag)(mg:Str->Option Value)(base:Heap)(k:Nat)(f:Addr)(fd:FuncData)(ps:List Str)(sp:Sp):Prop where
 ok:iu P w K mg base rS k f fd ps sp
 bd:Binds K fd ps []
 kp:PySem.W.keepIn K (.ref f)=true
section
variable{P:Program}{w:World}{K:PySem.W.Frag}{mg:Str->Option Value}{base:Heap}
theorem _root_.L2.aG.go{x qual:Str}{st:Stmt}{f:Addr}{fd:FuncData}{N ps:List Str}{k:Nat}{sp:Sp}(F:aG K x qual st f fd)
  (hbody:∀(aC:Value) (A:Around) (outer:List Env) (s:Shared) (H:Hp) (vs:List V) (Q:VK) (E:XK),di k (A.deeper (envOfC qual (d5 st) s.heap.objs.size f aC))->N.Nodup->sp vs H Q E->
   ∃t,jB (rP rS P w K mg base N qual (d5 st) f aC A outer s H E).oC (rR st) t/\ t {nx:=λ_ H'=>Q .aO H',rt:=Q} (start N vs) H)
  (pre:N.take ps.length=ps:=by exact U) (len:∀vs H Q E,sp vs H Q E->vs.length=ps.length:=by intro vs H Q E h;repeat (first|(obtain⟨rfl,_⟩:=h;rfl)|(obtain⟨_,h⟩:=h)))
  (hb:∀(kV doc pm:Value) (an:Option Addr) (aC ct:Value) (us:List Value),us.length=ps.length->bindArgs (PySem.W.fnOf x qual (wz st) (rR st) (d5 st) .none kV doc pm an aC ct) ⟨us,[]⟩=pure (ps.zip us):=by
   first
   |exact λ_ _ _ _ _ _ us hl=>match us,hl with|[_],_=>rfl
   |exact λ_ _ _ _ _ _ us hl=>match us,hl with|[_,_],_=>rfl
   |exact λ_ _ _ _ _ _ us hl=>match us,hl with|[_,_,_],_=>rfl
   |exact λ_ _ _ _ _ _ us hl=>match us,hl with|[_,_,_,_],_=>rfl)
  (kind:(d5 st).kind= .function:=by exact U) (co:(d5 st).isCoroutine=false:=by exact U) (gen:(d5 st).isGenerator=false:=by exact U) (nd:N.Nodup:=by decide+kernel)
  (par:∀x∈ps,(d5 st).names.lookup x=some .local\/(d5 st).names.lookup x=some .cell:=by decide+kernel) (C3:∀y∈(d5 st).names,y.2≠ .free:=by decide+kernel):Gd P w K mg base (k+1) f fd ps sp:=
 ⟨F.ok ⟨kind,co,gen,nd,pre,par,C3⟩ len λaC A outer s H vs Q E hr h=>hbody aC A outer s H vs Q E hr nd h,F.binds hb,F.kp⟩
end
section
variable{X:Cx}{a b e o:Expr}{ta tb te to:TE}{p pos apos:Pos}{es:List Expr}{t:TA}{x m:Str}{j k:Nat}{f C:Addr}{fd:FuncData}{ps:List Str}{sp:Sp}{K:PySem.W.Frag}
def aT(ha:PE X a ta)(hb:PE X b tb)(hs:vX b:=by exact λ_ _=>rfl):=zq (pos:=pos) Kx ha hb hs
def cW(ha:PE X a ta)(hb:PE X b tb)(hs:vX b:=by exact λ_ _=>rfl):=zq (pos:=pos) Kz ha hb hs
def Vw(hK:X.K=K)(ha:PE X a ta)(hb:PE X b tb)(hs:vX b:=by exact λ_ _=>rfl):=zq (pos:=pos) (Vr hK) ha hb hs
def ug(hK:X.K=K)(ha:PE X a ta)(hb:PE X b tb)(hs:vX b:=by exact λ_ _=>rfl):=zq (pos:=pos) (Vq hK) ha hb hs
def aR{op:CmpOp}{r:R2}(ho:dN X (compareOp op) r)(ha:PE X a ta)(hb:PE X b tb)(hm:behindInMarks op b=false:=by first|exact J' _|with_unfolding_all rfl):=SR (pos:=pos) ho ha hb hm
def lq{op:CmpOp}{r:R2}(ho:dN X (compareOp op) r)(ha:PE X a ta)(hb:PE X b tb)(hm:behindInMarks op b=false:=by first|exact J' _|with_unfolding_all rfl):=SQ (pos:=pos) ho ha hb hm
def ao(he:PE X e ta)(hb:attributeBase e m X.env (eval e X.env)=eval e X.env:=by exact U):=Kj (pos:=pos) he hb
def Vx(hK:X.K=K)(he:PE X e ta)(hb:attributeBase e m X.env (eval e X.env)=eval e X.env:=by exact U):=Vt (pos:=pos) hK he hb
def cn(ha:PE X o ta)(hv:PE X e te)(hs:swapsWith e (some (.Attribute o m p)) pos.line X.env=pure false:=by exact U):=Td ha hv hs
def aj(h:PE X e te)(hs:starEach [e] X.env=(false,eval e X.env)::starEach [] X.env:=by rfl):=fM h bY hs
def aY(h:PE X e te)(g:PE X a ta)(hs:starEach [e,a] X.env=(false,eval e X.env)::starEach [a] X.env:=by rfl)(gs:starEach [a] X.env=(false,eval a X.env)::starEach [] X.env:=by rfl):=fM h (aj g gs) hs
def aW{i:Int}(hm:∃t,X.mg x=some (Value.int i t))(hg:Gl X x:=by exact U)(hd:(x==("__debug__":Str))=false:=by decide):=Vk (pos:=pos) hg hm hd
def Vy{i:Str}(hm:∃t,X.mg x=some (Value.str i t))(hg:Gl X x:=by exact U)(hd:(x==("__debug__":Str))=false:=by decide):=Vl (pos:=pos) hg hm hd
def DO{i:Addr}(hm:X.mg x=some (.ref i))(hg:Gl X x:=by exact U)(hd:(x==("__debug__":Str))=false:=by decide):=Vm (pos:=pos) hg hm hd
def aN(i:Nat)(nd:X.N.Nodup)(he:PE X e te)(hi:X.N[i]? =some x:=by rfl)(hx:Loc X.env.scope x:=by first|exact Or.inl U|exact Or.inr U)(hs:swapsWith e (some (.Name x p)) pos.line X.env=pure false:=by rfl)(hf:X.fn x=true\/X.env.scope.names.lookup x=some .local:=by first|exact .inl U|exact .inr U|assumption):=Sy nd hi hx he hs hf
def cx(i:Nat)(nd:X.N.Nodup)(hi:X.N[i]? =some x:=by rfl)(hx:Loc X.env.scope x:=by first|exact Or.inl U|exact Or.inr U)(hf:X.fn x=true\/X.env.scope.names.lookup x=some .local:=by first|exact .inl U|exact .inr U|assumption):=Sw (pos:=pos) nd hi hx hf
def dw(hm:X.mg "len"=none)(h:PE X e te)(hs:starEach [e] X.env=(false,eval e X.env)::starEach [] X.env:=by rfl)(hg:Gl X "len":=by exact U)(bK:(backTo pos (starEach [] X.env)).any (·.1)=false:=by rfl):=pY (p:=p) TN hg hm PySem.boot_len (aj h hs) (by decide) (by decide) hs bK
def dD(ho:PE X o to)(h:PE X e te)(hbase:attributeBase o "append" X.env (eval o X.env)=eval o X.env:=by rfl)
  (Dd:((backTo pos (starEach [e] X.env)).all (λx=> !x.1)&&(backToKw pos (keywordEach [] X.env)).all (λx=>x.1.isSome)&&decide ([e].length+([]:List Keyword).length+(if([]:List Keyword).isEmpty then 0 else 1)<30))=true:=by rfl)
  (hline:(apos.endLine==pos.line)=true:=by rfl) (hs:starEach [e] X.env=(false,eval e X.env)::starEach [] X.env:=by rfl) (bK:(backTo pos (starEach [] X.env)).any (·.1)=false:=by rfl):=
 wb PySem.F.plainAttrs_list PySem.F.slot_list_append PySem.F.type_list_append T1 ho (aj h hs) hbase Dd hline hs bK
def aP(hr:di j X.A)(G:Gd X.prog X.w X.K X.mg X.base k f fd ps sp)(hm:X.mg x=some (.ref f))(ha:PA X (e::es) t)(hk:k<=j:=by decide)(hg:Gl X x:=by exact U)(fN:(x==("__debug__":Str))=false:=by decide)
  (he:starEach (e::es) X.env=(false,eval e X.env)::starEach es X.env:=by rfl) (bK:(backTo pos (starEach es X.env)).any (·.1)=false:=by rfl):=
 To (p:=p) G.ok (hr.mono hk) hg hm G.kp G.bd .nil wA ha fN he bK
def qh(hr:di j X.A)(G:Gd X.prog X.w X.K X.mg X.base k f fd ps sp)(M:Mk X.K C f)(hm:X.mg x=some (.ref C))(ha:PA X (e::es) t)(hk:k+1<=j:=by decide)(hg:Gl X x:=by exact U)(fN:(x==("__debug__":Str))=false:=by decide)
  (he:starEach (e::es) X.env=(false,eval e X.env)::starEach es X.env:=by rfl) (bK:(backTo pos (starEach es X.env)).any (·.1)=false:=by rfl):=
 Tr (p:=p) M G.ok (hr.mono hk) hg hm G.bd .nil wA ha fN he bK
def Ls(hr:di j X.A)(G:Gd X.prog X.w X.K X.mg X.base k f fd ps sp)(M:Mk X.K C f)(hm:X.mg x=some (.ref C))(hk:k+1<=j:=by decide)(hg:Gl X x:=by exact U)(fN:(x==("__debug__":Str))=false:=by decide):=Ts (p:=p) (pos:=pos) M G.ok (hr.mono hk) hg hm G.bd .nil wA fN
def bN{pl:Sem Bool}(hr:di j X.A)(G:Gd X.prog X.w X.K X.mg X.base k f fd ps sp)(c:gf X.K C)(hm:Meth X.K C m f)(ho:PE X o to)(ha:PA X (e::es) t)(hk:k<=j:=by decide)
  (cD:starEach (e::es) X.env=(false,eval e X.env)::starEach es X.env:=by rfl) (bK:(backTo pos (starEach es X.env)).any (·.1)=false:=by rfl)
  (ht:eval (.Call (.Attribute o m apos) (e::es) [] pos) X.env=(do
   let ov<-eval o X.env
   standAt apos.atName
   let(f,first)<-holding [ov] (getMethod ov m pl)
   callWith pos f first (backTo pos (starEach (e::es) X.env)) (backToKw pos (keywordEach [] X.env))):=by rfl):=
 Tp ho c hm G.ok (hr.mono hk) G.bd .nil wA ha cD bK ht
def dO{pl:Sem Bool}(hr:di j X.A)(G:Gd X.prog X.w X.K X.mg X.base k f fd ps sp)(c:gf X.K C)(hm:Meth X.K C m f)(ho:PE X o to)(hk:k<=j:=by decide)
  (ht:eval (.Call (.Attribute o m apos) [] [] pos) X.env=(do
   let ov<-eval o X.env
   standAt apos.atName
   let(f,first)<-holding [ov] (getMethod ov m pl)
   callWith pos f first (backTo pos (starEach [] X.env)) (backToKw pos (keywordEach [] X.env))):=by rfl):=
 Tq ho c hm G.ok (hr.mono hk) G.bd .nil wA ht
end
def top(i:Nat):Stmt:=PySem.Challenge.pw_proofpaths_s01_answers.main.body.getD i (.Pass ⟨0,0,0,0⟩)
structure aE where
 {kf cq jg bM eQ cX ef DP DQ DR DS DT DU DV DW DX DY DZ D2 D3 D4 D5 D6 zT D7 D8 D9 D_ Ea Eb Ec Ed Ee Ef Eg Eh Ei zU Ej Ek El Em Eo Ep Er Es Et Eu Ew zV Ex Ey Ez EA EB EC ED EE EF EG EH EI EJ EK EL EM EN zW EO ER ES ET EU EV EW EX EY EZ E1 E2 E3 E4 E5 E6 E7 E8 zX E9 E_ E' Fb Fc Fd Fe zY zZ z0 Fg Fh Fi Fj Fl Fm Fn Fo Fp Fq Fs Ft Fu Fv Fw Ni Fx Fy:Addr}
 {Lu Lv Lw Lx Ly Lz LB LC LD LF LG LH LI LJ LK LL LM LO LP LQ LR LS LU LV LW LX LY LZ L0 L1 L3 L5 L6 L7 L8 L9 L_ L' Ma Mb Mc Me Mf Mg Mh Mi Mj Ml Mm Mn Mo Mp Mq Mr Ms Mt Mu Mv Mw Mx My Mz MA MB MC MD ME MF MG MH MI MJ MK ML MM MN MO MP MQ MR MT MU MV MW MX MY MZ Ff M0 M3 M4 M5 M6 M7 M8 M9 M_ M' Na Nb Nc Nd Nf Ng Nh:FuncData}
structure Txt(K:PySem.W.Frag)(mg:Str->Option Value)(A:aE):Prop where
 Fz:mg "all"=none
 z5:mg "enumerate"=none
 c6:mg "len"=none
 wC:mg "list"=none
 Vz:mg "max"=none
 VA:mg "ord"=none
 z6:mg "range"=none
 FA:mg "reversed"=none
 VB:mg "set"=none
 Nj:mg "str"=none
 VC:mg "tuple"=none
 Nk:mg "zip"=none
 wD:∃t,mg "BLANK"=some (.int (32) t)
 z7:∃t,mg "LEFT"=some (.int (40) t)
 FC:∃t,mg "RIGHT"=some (.int (41) t)
 uh:∃t,mg "STAR"=some (.int (42) t)
 VD:∃t,mg "COMMA"=some (.int (44) t)
 rT:∃t,mg "DASH"=some (.int (45) t)
 FD:∃t,mg "ZERO"=some (.int (48) t)
 VE:∃t,mg "NINE"=some (.int (57) t)
 VF:∃t,mg "SEMICOLON"=some (.int (59) t)
 VG:∃t,mg "SMALL_A"=some (.int (97) t)
 Nl:∃t,mg "SMALL_O"=some (.int (111) t)
 VH:∃t,mg "SMALL_Z"=some (.int (122) t)
 wF:∃t,mg "BAR"=some (.int (124) t)
 z8:∃t,mg "TILDE"=some (.int (126) t)
 VI:∃t,mg "PLAIN"=some (.int (0) t)
 VJ:∃t,mg "TURNED"=some (.int (1) t)
 wG:∃t,mg "TENSOR"=some (.int (2) t)
 z9:∃t,mg "PAR"=some (.int (3) t)
 VL:mg "DUAL_KINDS"=some (.ref A.Ni)
 VM:∀H:Hp,bz K H A.Ni [.int (1), .int (0), .int (3), .int (2)]
 VN:∃t,mg "MOST_ATOMS"=some (.int (60) t)
 VO:∃t,mg "MOST_DEPTH"=some (.int (40) t)
 VP:∃t,mg "MOST_BYTES"=some (.int (2000) t)
 VQ:∃t,mg "MOST_NAME_BYTES"=some (.int (12) t)
 VR:∃t,mg "MOST_PENDING"=some (.int (100) t)
 VS:∃t,mg "MOST_FORMULAS"=some (.int (20) t)
 VT:∃t,mg "MOST_LEAVES"=some (.int (120) t)
 VU:∃t,mg "NO_TEXT"=some (.int (-1) t)
 VV:∃t,mg "NO_PAIRS"=some (.int (-3) t)
 VW:∃t,mg "TOO_MANY_LEAVES"=some (.int (-5) t)
 VX:∃t,mg "OUT_OF_BOUNDS"=some (.int (-6) t)
 Nm:∃t,mg "MOST_JUNCTIONS"=some (.int (8) t)
 VY:∃t,mg "FIRST_TEXT"=some (.str "a, ~a ; ; 0-1" t)
 VZ:∃t,mg "SET"=some (.int (0) t)
 V0:∃t,mg "FORM"=some (.int (1) t)
 V1:∃t,mg "SIZE"=some (.int (2) t)
 V2:∃t,mg "NEXT"=some (.int (3) t)
 V3:∃t,mg "TRIP"=some (.int (4) t)
 V4:∃t,mg "PATH"=some (.int (5) t)
 V5:∃t,mg "TEST"=some (.int (6) t)
 V6:∃t,mg "BAD"=some (.int (7) t)
 V7:∃t,mg "TOKEN"=some (.int (8) t)
 V8:∃t,mg "PLAY"=some (.int (9) t)
 V9:∃t,mg "PLACE"=some (.int (10) t)
 V_:mg "NUMBER_COUNTS"=some (.ref A.Fx)
 V':∀H:Hp,bz K H A.Fx [.int (0), .int (0), .int (0), .int (1), .int (1), .int (0), .int (0), .int (0), .int (1), .int (3), .int (1), .int (0)]
 Wa:mg "ROW_COUNTS"=some (.ref A.Fy)
 Wb:∀H:Hp,bz K H A.Fy [.int (1), .int (0), .int (0), .int (1), .int (1), .int (1), .int (0), .int (0), .int (1), .int (2), .int (0), .int (0)]
 Wc:∃t,mg "NO_SWITCHING"=some (.int (-1) t)
 ui:∃t,mg "NOT_THERE"=some (.int (-4) t)
 Nn:∃t,mg "TOO_MANY_JUNCTIONS"=some (.int (-7) t)
 Wd:∃t,mg "NOT_DUAL"=some (.int (-8) t)
 We:mg "Clusters"=some (.ref A.kf)
 Wf:mg "Reading"=some (.ref A.cq)
 Wg:mg "Parts"=some (.ref A.jg)
 FE:mg "Points"=some (.ref A.bM)
 Np:mg "Token"=some (.ref A.eQ)
 Wh:mg "Call"=some (.ref A.cX)
 Wi:mg "Holder"=some (.ref A.ef)
 FF:mg "is_letter"=some (.ref A.DP)
 Nq:mg "is_digit"=some (.ref A.DQ)
 wI:mg "as_bytes"=some (.ref A.DR)
 z_:mg "split_at"=some (.ref A.DS)
 FG:mg "join_with"=some (.ref A.DT)
 mq:mg "is_junction"=some (.ref A.DU)
 Wj:mg "plain_atom"=some (.ref A.DV)
 Nr:mg "compound"=some (.ref A.DW)
 wJ:mg "dual"=some (.ref A.DX)
 Nt:mg "atoms"=some (.ref A.DY)
 Wk:mg "depth"=some (.ref A.DZ)
 Wl:mg "in_bounds"=some (.ref A.D2)
 Wm:mg "formula_form"=some (.ref A.D3)
 Wn:mg "atom_form"=some (.ref A.D4)
 Wq:mg "junction_form"=some (.ref A.D5)
 Nu:mg "in_brackets"=some (.ref A.D6)
 aeY:Meth K A.kf "__init__" A.zT
 Nv:Meth K A.kf "are_one" A.D7
 Nw:Meth K A.kf "unite" A.D8
 Ws:Meth K A.kf "cluster_count" A.D9
 Wt:mg "draws_together"=some (.ref A.D_)
 Wu:mg "edges"=some (.ref A.Ea)
 Wv:mg "takes_all_pars"=some (.ref A.Eb)
 Ny:mg "is_ready"=some (.ref A.Ec)
 Ww:mg "read_formula"=some (.ref A.Ed)
 Wx:mg "cut_into_tokens"=some (.ref A.Ee)
 Wy:mg "token_at"=some (.ref A.Ef)
 Nz:mg "is_name_byte"=some (.ref A.Eg)
 Wz:mg "stretch_end"=some (.ref A.Eh)
 WA:mg "is_name"=some (.ref A.Ei)
 aeZ:Meth K A.cq "__init__" A.zU
 WB:Meth K A.cq "take" A.Ej
 WC:Meth K A.cq "take_for_part" A.Ek
 WD:Meth K A.cq "take_behind_part" A.El
 WE:Meth K A.cq "take_chain_sign" A.Em
 WG:Meth K A.cq "take_right" A.Eo
 FH:Meth K A.cq "begin" A.Ep
 uj:Meth K A.cq "innermost" A.Er
 NA:Meth K A.cq "end_part" A.Es
 NB:Meth K A.cq "end_chain" A.Et
 ND:Meth K A.cq "end_formula" A.Eu
 WH:Meth K A.cq "whole" A.Ew
 ae0:Meth K A.jg "__init__" A.zV
 FI:Meth K A.jg "formulas" A.Ex
 NF:Meth K A.jg "leaves" A.Ey
 FJ:mg "read_parts"=some (.ref A.Ez)
 NG:mg "read_sequent"=some (.ref A.EA)
 WI:mg "read_links"=some (.ref A.EB)
 WJ:mg "read_pair"=some (.ref A.EC)
 NH:mg "read_number"=some (.ref A.ED)
 NI:mg "without_outer_blanks"=some (.ref A.EE)
 NJ:mg "parts_refusal"=some (.ref A.EF)
 WK:mg "are_paired"=some (.ref A.EG)
 WL:mg "parts_form"=some (.ref A.EH)
 NK:mg "sequent_form"=some (.ref A.EI)
 WM:mg "links_form"=some (.ref A.EJ)
 WN:mg "atom_at"=some (.ref A.EK)
 NL:mg "conclusion_atom_at"=some (.ref A.EL)
 WO:mg "place_of"=some (.ref A.EM)
 FK:mg "spot_of"=some (.ref A.EN)
 ae1:Meth K A.bM "__init__" A.zW
 WQ:Meth K A.bM "lay" A.EO
 WR:Meth K A.bM "add_point" A.ER
 WS:Meth K A.bM "join_cuts" A.ES
 WT:Meth K A.bM "join_leaves" A.ET
 FL:Meth K A.bM "leaf_points" A.EU
 NM:Meth K A.bM "junction_points" A.EV
 FN:Meth K A.bM "has_conclusion" A.EW
 FO:Meth K A.bM "has_passage" A.EX
 FP:Meth K A.bM "passage_count" A.EY
 WU:Meth K A.bM "is_switching" A.EZ
 FQ:Meth K A.bM "behind" A.E1
 WV:Meth K A.bM "behind_up" A.E2
 WW:Meth K A.bM "behind_down" A.E3
 qi:Meth K A.bM "part" A.E4
 WX:Meth K A.bM "beside" A.E5
 Aa:Meth K A.bM "trip" A.E6
 Ab:mg "up"=some (.ref A.E7)
 FR:mg "down"=some (.ref A.E8)
 ae2:Meth K A.eQ "__init__" A.zX
 FT:Meth K A.eQ "go_through" A.E9
 WY:Meth K A.eQ "cross" A.E_
 WZ:mg "over_cut"=some (.ref A.E')
 W0:mg "play"=some (.ref A.Fb)
 W2:mg "all_switchings"=some (.ref A.Fc)
 NN:mg "first_bad_switching"=some (.ref A.Fd)
 W3:mg "is_net"=some (.ref A.Fe)
 W4:mg "answers"=some (.ref A.zY)
 ae3:Meth K A.cX "__init__" A.zZ
 ae4:Meth K A.ef "__init__" A.z0
 W5:Meth K A.ef "answer" A.Fg
 W6:Meth K A.ef "answer_set" A.Fh
 W7:Meth K A.ef "answer_form" A.Fi
 W8:Meth K A.ef "answer_size" A.Fj
 W9:Meth K A.ef "answer_next" A.Fl
 W_:Meth K A.ef "answer_trip" A.Fm
 W':Meth K A.ef "answer_path" A.Fn
 FU:Meth K A.ef "travel_refusal" A.Fo
 Xa:Meth K A.ef "answer_test" A.Fp
 Xb:Meth K A.ef "answer_bad" A.Fq
 Xc:Meth K A.ef "answer_token" A.Fs
 Xd:Meth K A.ef "answer_play" A.Ft
 Xe:Meth K A.ef "answer_place" A.Fu
 Xf:Meth K A.ef "answer_draw" A.Fv
 Xg:mg "all_there"=some (.ref A.Fw)
 Xh:aG K "is_letter" "is_letter" (top 15) A.DP A.Lu
 Xi:aG K "is_digit" "is_digit" (top 16) A.DQ A.Lv
 Xj:aG K "as_bytes" "as_bytes" (top 17) A.DR A.Lw
 Xk:aG K "split_at" "split_at" (top 18) A.DS A.Lx
 Xl:aG K "join_with" "join_with" (top 19) A.DT A.Ly
 Xm:aG K "is_junction" "is_junction" (top 28) A.DU A.Lz
 Xn:aG K "plain_atom" "plain_atom" (top 29) A.DV A.LB
 Xo:aG K "compound" "compound" (top 30) A.DW A.LC
 Xp:aG K "dual" "dual" (top 31) A.DX A.LD
 Xq:aG K "atoms" "atoms" (top 32) A.DY A.LF
 Xr:aG K "depth" "depth" (top 33) A.DZ A.LG
 Xs:aG K "in_bounds" "in_bounds" (top 34) A.D2 A.LH
 Xt:aG K "formula_form" "formula_form" (top 35) A.D3 A.LI
 Xu:aG K "atom_form" "atom_form" (top 36) A.D4 A.LJ
 Xv:aG K "junction_form" "junction_form" (top 37) A.D5 A.LK
 Xw:aG K "in_brackets" "in_brackets" (top 38) A.D6 A.LL
 Xx:aG K "__init__" "Clusters.__init__" (inClass (top 40) 0) A.zT A.LM
 Xy:aG K "are_one" "Clusters.are_one" (inClass (top 40) 1) A.D7 A.LO
 Xz:aG K "unite" "Clusters.unite" (inClass (top 40) 2) A.D8 A.LP
 XA:aG K "cluster_count" "Clusters.cluster_count" (inClass (top 40) 3) A.D9 A.LQ
 XB:aG K "draws_together" "draws_together" (top 41) A.D_ A.LR
 XC:aG K "edges" "edges" (top 42) A.Ea A.LS
 XD:aG K "takes_all_pars" "takes_all_pars" (top 43) A.Eb A.LU
 XE:aG K "is_ready" "is_ready" (top 44) A.Ec A.LV
 XF:aG K "read_formula" "read_formula" (top 49) A.Ed A.LW
 XG:aG K "cut_into_tokens" "cut_into_tokens" (top 50) A.Ee A.LX
 XH:aG K "token_at" "token_at" (top 51) A.Ef A.LY
 XI:aG K "is_name_byte" "is_name_byte" (top 52) A.Eg A.LZ
 XJ:aG K "stretch_end" "stretch_end" (top 53) A.Eh A.L0
 XM:aG K "is_name" "is_name" (top 54) A.Ei A.L1
 XN:aG K "__init__" "Reading.__init__" (inClass (top 55) 0) A.zU A.L3
 XO:aG K "take" "Reading.take" (inClass (top 55) 1) A.Ej A.L5
 XQ:aG K "take_for_part" "Reading.take_for_part" (inClass (top 55) 2) A.Ek A.L6
 XR:aG K "take_behind_part" "Reading.take_behind_part" (inClass (top 55) 3) A.El A.L7
 XS:aG K "take_chain_sign" "Reading.take_chain_sign" (inClass (top 55) 4) A.Em A.L8
 XT:aG K "take_right" "Reading.take_right" (inClass (top 55) 5) A.Eo A.L9
 XU:aG K "begin" "Reading.begin" (inClass (top 55) 6) A.Ep A.L_
 XW:aG K "innermost" "Reading.innermost" (inClass (top 55) 7) A.Er A.L'
 XX:aG K "end_part" "Reading.end_part" (inClass (top 55) 8) A.Es A.Ma
 XY:aG K "end_chain" "Reading.end_chain" (inClass (top 55) 9) A.Et A.Mb
 XZ:aG K "end_formula" "Reading.end_formula" (inClass (top 55) 10) A.Eu A.Mc
 X0:aG K "whole" "Reading.whole" (inClass (top 55) 11) A.Ew A.Me
 X1:aG K "__init__" "Parts.__init__" (inClass (top 63) 0) A.zV A.Mf
 X2:aG K "formulas" "Parts.formulas" (inClass (top 63) 1) A.Ex A.Mg
 X3:aG K "leaves" "Parts.leaves" (inClass (top 63) 2) A.Ey A.Mh
 X4:aG K "read_parts" "read_parts" (top 64) A.Ez A.Mi
 X5:aG K "read_sequent" "read_sequent" (top 65) A.EA A.Mj
 X6:aG K "read_links" "read_links" (top 66) A.EB A.Ml
 X7:aG K "read_pair" "read_pair" (top 67) A.EC A.Mm
 X8:aG K "read_number" "read_number" (top 68) A.ED A.Mn
 X9:aG K "without_outer_blanks" "without_outer_blanks" (top 69) A.EE A.Mo
 X_:aG K "parts_refusal" "parts_refusal" (top 70) A.EF A.Mp
 X':aG K "are_paired" "are_paired" (top 71) A.EG A.Mq
 Ya:aG K "parts_form" "parts_form" (top 72) A.EH A.Mr
 Yb:aG K "sequent_form" "sequent_form" (top 73) A.EI A.Ms
 Yc:aG K "links_form" "links_form" (top 74) A.EJ A.Mt
 Yd:aG K "atom_at" "atom_at" (top 76) A.EK A.Mu
 Ye:aG K "conclusion_atom_at" "conclusion_atom_at" (top 77) A.EL A.Mv
 Yf:aG K "place_of" "place_of" (top 78) A.EM A.Mw
 Yg:aG K "spot_of" "spot_of" (top 79) A.EN A.Mx
 Yh:aG K "__init__" "Points.__init__" (inClass (top 81) 0) A.zW A.My
 Yi:aG K "lay" "Points.lay" (inClass (top 81) 1) A.EO A.Mz
 Yj:aG K "add_point" "Points.add_point" (inClass (top 81) 2) A.ER A.MA
 Yk:aG K "join_cuts" "Points.join_cuts" (inClass (top 81) 3) A.ES A.MB
 Yl:aG K "join_leaves" "Points.join_leaves" (inClass (top 81) 4) A.ET A.MC
 Ym:aG K "leaf_points" "Points.leaf_points" (inClass (top 81) 5) A.EU A.MD
 Yn:aG K "junction_points" "Points.junction_points" (inClass (top 81) 6) A.EV A.ME
 Yo:aG K "has_conclusion" "Points.has_conclusion" (inClass (top 81) 7) A.EW A.MF
 Yp:aG K "has_passage" "Points.has_passage" (inClass (top 81) 8) A.EX A.MG
 Yq:aG K "passage_count" "Points.passage_count" (inClass (top 81) 9) A.EY A.MH
 Yr:aG K "is_switching" "Points.is_switching" (inClass (top 81) 10) A.EZ A.MI
 Ys:aG K "behind" "Points.behind" (inClass (top 81) 11) A.E1 A.MJ
 Yt:aG K "behind_up" "Points.behind_up" (inClass (top 81) 12) A.E2 A.MK
 Yu:aG K "behind_down" "Points.behind_down" (inClass (top 81) 13) A.E3 A.ML
 Yv:aG K "part" "Points.part" (inClass (top 81) 14) A.E4 A.MM
 Yw:aG K "beside" "Points.beside" (inClass (top 81) 15) A.E5 A.MN
 Yx:aG K "trip" "Points.trip" (inClass (top 81) 16) A.E6 A.MO
 Yy:aG K "up" "up" (top 82) A.E7 A.MP
 Yz:aG K "down" "down" (top 83) A.E8 A.MQ
 YA:aG K "__init__" "Token.__init__" (inClass (top 85) 0) A.zX A.MR
 YB:aG K "go_through" "Token.go_through" (inClass (top 85) 1) A.E9 A.MT
 YC:aG K "cross" "Token.cross" (inClass (top 85) 2) A.E_ A.MU
 YD:aG K "over_cut" "over_cut" (top 86) A.E' A.MV
 YE:aG K "play" "play" (top 87) A.Fb A.MW
 YF:aG K "all_switchings" "all_switchings" (top 90) A.Fc A.MX
 YG:aG K "first_bad_switching" "first_bad_switching" (top 91) A.Fd A.MY
 YH:aG K "is_net" "is_net" (top 92) A.Fe A.MZ
 NO:aG K "answers" "answers" (top 112) A.zY A.Ff
 YI:aG K "__init__" "Call.__init__" (inClass (top 113) 0) A.zZ A.M0
 YJ:aG K "__init__" "Holder.__init__" (inClass (top 114) 0) A.z0 A.M3
 YK:aG K "answer" "Holder.answer" (inClass (top 114) 1) A.Fg A.M4
 YL:aG K "answer_set" "Holder.answer_set" (inClass (top 114) 2) A.Fh A.M5
 YM:aG K "answer_form" "Holder.answer_form" (inClass (top 114) 3) A.Fi A.M6
 YN:aG K "answer_size" "Holder.answer_size" (inClass (top 114) 4) A.Fj A.M7
 YO:aG K "answer_next" "Holder.answer_next" (inClass (top 114) 5) A.Fl A.M8
 YQ:aG K "answer_trip" "Holder.answer_trip" (inClass (top 114) 6) A.Fm A.M9
 YR:aG K "answer_path" "Holder.answer_path" (inClass (top 114) 7) A.Fn A.M_
 YS:aG K "travel_refusal" "Holder.travel_refusal" (inClass (top 114) 8) A.Fo A.M'
 YT:aG K "answer_test" "Holder.answer_test" (inClass (top 114) 9) A.Fp A.Na
 YU:aG K "answer_bad" "Holder.answer_bad" (inClass (top 114) 10) A.Fq A.Nb
 YV:aG K "answer_token" "Holder.answer_token" (inClass (top 114) 11) A.Fs A.Nc
 YW:aG K "answer_play" "Holder.answer_play" (inClass (top 114) 12) A.Ft A.Nd
 YX:aG K "answer_place" "Holder.answer_place" (inClass (top 114) 13) A.Fu A.Nf
 YY:aG K "answer_draw" "Holder.answer_draw" (inClass (top 114) 14) A.Fv A.Ng
 YZ:aG K "all_there" "all_there" (top 115) A.Fw A.Nh
 kg:gf K A.kf
 Y0:Mk K A.kf A.zT
 qj:dv K A.kf "labels"
 bW:gf K A.cq
 Y1:Mk K A.cq A.zU
 kh:dv K A.cq "formula"
 nE:dv K A.cq "pending"
 qk:dv K A.cq "failed"
 gN:gf K A.jg
 Y2:Mk K A.jg A.zV
 uk:dv K A.jg "conclusions"
 FV:dv K A.jg "cuts"
 Ac:dv K A.jg "links"
 aF:gf K A.bM
 FW:Mk K A.bM A.zW
 ki:dv K A.bM "nodes"
 um:dv K A.bM "owners"
 ql:dv K A.bM "below"
 wK:dv K A.bM "sides"
 Ad:dv K A.bM "seconds"
 wL:dv K A.bM "switches"
 oT:dv K A.bM "partners"
 oU:dv K A.bM "turns"
 qm:dv K A.bM "junction_count"
 FX:dv K A.bM "conclusion_count"
 oV:dv K A.bM "roots"
 dX:gf K A.eQ
 NP:Mk K A.eQ A.zX
 mr:dv K A.eQ "point"
 FY:dv K A.eQ "cut_count"
 nF:dv K A.eQ "board"
 FZ:dv K A.eQ "crossing_count"
 e_:gf K A.cX
 Y3:Mk K A.cX A.zZ
 Ae:dv K A.cX "kind"
 uo:dv K A.cX "end"
 uq:dv K A.cX "numbers"
 oW:dv K A.cX "rows"
 cy:gf K A.ef
 Y4:Mk K A.ef A.z0
 wM:dv K A.ef "parts"
 fk:dv K A.ef "points"
section
variable{P:Program}{w:World}{K:PySem.W.Frag}{mg:Str->Option Value}{base:Heap}{A:aE}
theorem oX{σ:L2.St}{H:Hp}{T F:Hp->Prop}(h:T H):KI σ H (λb H3=>if b=true then T H3 else F H3):=by show(if true=true then T H else F H);rw[if_pos U];exact h
theorem Af(a b:UInt8):decide (a<=b)=decide ((a.toNat:Int)<=(b.toNat:Int)):=by
 have:(a<=b)↔((a.toNat:Int)<=(b.toNat:Int)):=by rw[UInt8.le_iff_toNat_le];omega
 exact decide_eq_decide.mpr this
theorem NQ(b:UInt8):isSmall b=(decide ((97:Int)<=(b.toNat:Int))&&decide ((b.toNat:Int)<=122)):=by unfold isSmall;rw[Af,Af];rfl
theorem digit_eq(b:UInt8):isDigit b=(decide ((48:Int)<=(b.toNat:Int))&&decide ((b.toNat:Int)<=57)):=by unfold isDigit;rw[Af,Af];rfl
theorem NR{a b:UInt8}(h:bI a=bI b):a=b:=by
 have h:(a.toNat:Int)=(b.toNat:Int):=by injection h
 exact UInt8.toNat_inj.mp (by omega)
def Y5:Sp:=λvs H Q _=>∃b:UInt8,vs=[bI b]/\ Q (.bl (isSmall b)) H
theorem F0(T:Txt K mg A):Gd P w K mg base 1 A.DP A.Lu ["byte"] Y5:=by
 refine T.Xh.go (N:=["byte"]) ?_;rintro aC A' outer s H vs Q E hr nd ⟨b,rfl,k⟩;refine⟨_,(ag (aB (zk j6 j6 (aW T.VG) (pv 0) (aW T.VH)))),?_⟩;refine⟨_,U,_,_,U,U,_,U,b9 (λh=>?_) (λh=>?_)⟩
 ·refine⟨_,_,U,U,?_⟩
  rw[NQ,h]at k;exact k
 ·rw[NQ,sW.mpr h]at k
  exact k
def NS:Sp:=λvs H Q _=>∃b:UInt8,vs=[bI b]/\ Q (.bl (isDigit b)) H
theorem NT(T:Txt K mg A):Gd P w K mg base 1 A.DQ A.Lv ["byte"] NS:=by
 refine T.Xi.go (N:=["byte"]) ?_;rintro aC A' outer s H vs Q E hr nd ⟨b,rfl,k⟩;refine⟨_,(ag (aB (zk j6 j6 (aW T.FD) (pv 0) (aW T.VE)))),?_⟩;refine⟨_,U,_,_,U,U,_,U,b9 (λh=>?_) (λh=>?_)⟩
 ·refine⟨_,_,U,U,?_⟩
  rw[digit_eq,h]at k;exact k
 ·rw[digit_eq,sW.mpr h]at k
  exact k
def codes(x:Str):List V:=x.cps.toList.map λ(c:Nat)=>V.int (c:Int)
def Y6:Sp:=λvs H Q _=>∃x:Str,vs=[.str x]/\ x.cps.size<=1000/\ ∀H' a,aa H H'->H a=none->H' a=some (.lst (codes x))->Q (.ref a) H'
theorem wN(T:Txt K mg A):Gd P w K mg base 1 A.DR A.Lw ["text"] Y6:=by
 refine T.Xj.go (N:=["text","sign"]) ?_;rintro aC A' outer s H vs Q E hr nd ⟨x,rfl,hx,k⟩;refine⟨_,(ag (aB (mj U nd (UI (pv 0)) (jF (own:=[("sign",1)]) (by show iS ["text","sign"] (d5 (top 17)) _ _=true;decide+kernel)) (λ_ _ _ _ _=>(cx 1 nd)) (λ_ _ _ _ _=>oN) (λ_ _ _ _ _=>(pY SV (by rfl) T.VA Vn (aj (pv 1))))))),?_⟩;refine⟨_,U,x,U,λD hD=>?_⟩;refine⟨λi m H'=>m=x.cps.size-i/\ i<=x.cps.size/\ H'=upd H D (.lst ((codes x).take i)),⟨_,U,bj _,by simp⟩,?_⟩;rintro i m H' ⟨rfl,hi,rfl⟩;have hlen:(codes x).length=x.cps.size:=by simp[codes]
 by_cases aU:i<x.cps.size
 ·refine .inr ⟨aU,λH'=>H'=upd H D (.lst ((codes x).take (i+1))),?_,?_⟩
  ·rintro H' rfl
   exact⟨x.cps.size-(i+1),by omega,U,aU,U⟩
  ·rintro v H' ⟨rfl,c,hc,rfl⟩
   refine⟨U,oX ?_⟩;refine⟨_,U,_,U,U,_,ae,?_,?_⟩
   ·have:((codes x).take i).length<=1000:=by rw[mX];omega
    exact UW this
   ·rw[jz]
    congr 2;have e:(codes x)[i]? =some (V.int (c:Int)):=by unfold codes;rw[ez,Array.getElem?_toList,hc];rfl
    rw[By,e];rfl
 ·refine .inl ⟨by show x.cps.size<=i;omega,?_⟩
  refine k _ D (aa.new hD) hD ?_;rw[ae,pF (by omega)]
theorem lu{α β:Type}{f:α->β}{l:List α}{i:Nat}{y:β}(h:(l.map f)[i]? =some y):∃x,l[i]? =some x/\ y=f x:=by rw[ez]at h;obtain⟨x,h1,h2⟩:=eu.mp h;exact⟨x,h1,h2.symm⟩
theorem iy{α:Type}{l:List α}{i:Nat}{x:α}(h:l[i]? =some x):l.take (i+1)=l.take i++[x]:=by rw[By,h];rfl
theorem dm{α:Type}{l:List α}{i:Nat}{x:α}(h:l[i]? =some x):i<l.length:=(cP.mp h).1
def Y7:Sp:=λvs H Q _=>∃(P:Addr->Prop) (v:V) (t:Text) (b:UInt8),vs=[v,bI b]/\ bG H v t/\ t.length<=4000/\ Hid P H/\ ∀v' H',aa H H'->cS bG (Wo P H') v' (cutAt b t)->Q v' H'
theorem Ag(T:Txt K mg A):Gd P w K mg base 1 A.DS A.Lx ["text","sign"] Y7:=by
 refine T.Xk.go (N:=["text","sign","parts","begin","at","byte"]) ?_;rintro aC A' outer s H vs Q E hr nd ⟨P,v,t,b,rfl,⟨a,rfl,ha⟩,hlen,hP,k⟩;refine⟨_,(af (aN 2 nd (aS bY))
  (af (aN 3 nd ak)
  (af (eZ PassesOwn.never U (zF (by rfl) T.z5 (aj (pv 0))) (CO U (kY (cx 4 nd) (kY (cx 5 nd) tV))) (ag (a9 (aR cj (pv 5) (pv 1)) (af (bF (dD (pv 2) (oH oI (pv 0) (je (pv 3)) (je (pv 4)))))
  (ag (aN 3 nd (b_ jd (pv 4) ak)))) bt)))
  (af (bF (dD (pv 2) (oH oI (pv 0) (je (pv 3)) C4)))
  (ag (aB (pv 2))))))),?_⟩
 refine⟨bj _,λl hl=>?_⟩;have s0:aa H (upd H l (.lst [])):=aa.new hl;have F2:¬P l:=hP.not hl;have nal:a≠l:=bS ha hl;refine⟨_,U,a,_,U,ab.of (s0 _ _ ha),Ln 4 5 (λi σ H'=>∃(bg:Nat) (u w:Option V) (ps:List Text) (vs:List V),σ=[some (.ref a),some (bI b),some (.ref l),some (.int (bg:Int)),u,w]/\ aa H H'/\ Hid (aL P l) H'/\ H' l=some (.lst vs)/\ Paired (bG (Wo (aL P l) H')) vs ps/\ bg<=i/\ vs.length<=i/\ cutAt b (t.take i)=ps++[(t.take i).drop bg])
  ⟨0,none,none,[],[],U,s0,(hP.mono s0).lh ae,ae, .nil,aM _,aM _,U⟩ (λi σ H' _ ⟨_,_,_,_,_,_,sm,_⟩=>ab.of (sm _ _ ha)) ?_ ?_⟩
 ·rintro i x σ H' T hx ⟨bg,u,w,ps,vs,rfl,sm,aH,hv,hp,hb,gk,hc⟩ hT
  obtain⟨c,mv,rfl⟩:=lu hx;have hi:=dm mv;have s1:aa H' (upd H' T (.tup [.int (i:Int),bI c])):=aa.new hT;refine⟨_,U,_,U,U,_,U,b9 (λh=>?_) (λh=>?_)⟩
  ·have gY:c=b:=NR (of_decide_eq_true h)
   subst gY;refine⟨_,U, .inl ⟨U,_,ab.of (s1 _ _ hv)⟩,_,U,_,U,_,U,_,U,_,U,a,_,U,ab.of (s1 _ _ (sm _ _ ha)),λp kj=>⟨l,_,_,U,U,(aa.new kj) _ _ (s1 _ _ hv),dk (by omega),?_⟩⟩;have s2:aa (upd H' T (.tup [.int (i:Int),bI c])) (upd (upd H' T (.tup [.int (i:Int),bI c])) p (.lst (fT (t.map bI) (some (bg:Int)) (some (i:Int))))):=aa.new kj;have s3:=s1.trans s2;have bK:¬aL P l p:=(aH.mono s1).not kj;refine⟨_,U,_,_,U,U,i+1,_,_,ps++[(t.take i).drop bg],vs++[.ref p],U,c5 (sm.trans s3) hl,(aH.mono s3).upd,ae,?_,aM _,by simp;omega,?_⟩
   ·rw[dP (.inr U)]
    refine ke (bO (λ_ _ r=>bG.mono _ _ _ _ (bV s3) r) hp) ⟨p,U,?_⟩;rw[cR bK,ae,uf _ hb (by simp;omega),<-oa,<-pH,List.drop_take]
   ·rw[iy mv,vg c c _ _ _ hc,if_pos U]
    congr 2;rw[List.drop_of_length_le (by simp;omega)]
  ·have gY:¬c=b:=λe=>h (decide_eq_true (by rw[e]))
   refine⟨bg,_,_,ps,vs,U,sm.trans s1,aH.mono s1,s1 _ _ hv,bO (λ_ _ r=>bG.mono _ _ _ _ (bV s1) r) hp,by omega,by omega,?_⟩;rw[iy mv,vg b c _ _ _ hc,if_neg gY,List.drop_append_of_le_length (by simp;omega)]
 ·rintro σ H' ⟨bg,u,w,ps,vs,rfl,sm,aH,hv,hp,hb,gk,hc⟩
  rw[aI]at hb gk hc;rw[kK]at hc;refine⟨_,U, .inl ⟨U,_,ab.of hv⟩,_,U,_,U,_,U,a,_,U,ab.of (sm _ _ ha),λp kj=>⟨l,_,_,U,U,(aa.new kj) _ _ hv,dk (by omega),?_⟩⟩;have s2:aa H' (upd H' p (.lst (fT (t.map bI) (some (bg:Int)) none))):=aa.new kj;have bK:¬aL P l p:=aH.not kj;refine⟨_,U,k _ _ (c5 (sm.trans s2) hl) ⟨l,vs++[.ref p],U,by rw[cR F2];exact ae,?_⟩⟩;rw[hc];refine bO (λ_ _ r=>bG.mono _ _ _ _ ?_ r) (ke (bO (λ_ _ r=>bG.mono _ _ _ _ (bV (P:=aL P l) s2) r) hp) ⟨p,U,?_⟩)
  ·rw[<-dP (P:=aL P l) (l:=l) (o:= .lst (vs++[.ref p])) (.inr U)]
   exact zQ λb hb=> .inl hb
  ·rw[cR bK,ae,Lr _ (by simp;omega),oa]
def Y8:Sp:=λvs H Q _=>∃(u v:V) (sep:Text) (ts:List Text),vs=[u,v]/\ bG H u sep/\ cS bG H v ts/\ ts.length*(sep.length+1)+(ts.map List.length).sum<=1000000/\ ∀a H',aa H H'->H a=none->H' a=some (.lst ((df sep ts).map bI))->Q (.ref a) H'
theorem uu(sep:Text):∀ts:List Text,(df sep ts).length<=ts.length*(sep.length+1)+(ts.map List.length).sum
 |[]|[x]=>by simp[df]
 |x::y::r=>by
  have:=uu sep (y::r);simp only[df,bL,aX,da,yc]at this⊢;have e:(r.length+1+1)*(sep.length+1)=(r.length+1)*(sep.length+1)+(sep.length+1):=by rw[Nat.add_mul];omega
  omega
theorem Y9{l:List Nat}(i:Nat):(l.take i).sum<=l.sum:=by
 conv=>rhs;rw[<-uS i l,List.sum_append]
 omega
theorem NU(sep:Text)(ts:List Text)(i:Nat)(h:ts.length*(sep.length+1)+(ts.map List.length).sum<=1000000):(df sep (ts.take i)).length<=1000000:=by have h1:=uu sep (ts.take i);have h2:=Y9 (l:=ts.map List.length) i;rw[<-pH]at h2;have h3:(ts.take i).length*(sep.length+1)<=ts.length*(sep.length+1):=Bz _ (by simp;omega);omega
theorem F3(T:Txt K mg A):Gd P w K mg base 1 A.DT A.Ly ["separator","texts"] Y8:=by
 refine T.Xl.go (N:=["separator","texts","joined","at","text"]) ?_;rintro aC A' outer s H vs Q E hr nd ⟨u,v,sep,ts,rfl,⟨a,rfl,ha⟩,⟨c,xs,rfl,hc,cg⟩,hlen,k⟩;refine⟨_,(af (aN 2 nd (aS bY))
  (af (eZ PassesOwn.never U (zF (by rfl) T.z5 (aj (pv 1))) (CO U (kY (cx 3 nd) (kY (cx 4 nd) tV))) (af (a9 (aR rJ (pv 3) ak) (ag (bF (wb PySem.F.plainAttrs_list PySem.F.slot_list_extend PySem.F.type_list_extend zt (pv 2) (aj (pv 0))))) bt)
  (ag (bF (wb PySem.F.plainAttrs_list PySem.F.slot_list_extend PySem.F.type_list_extend zt (pv 2) (aj (pv 4)))))))
  (ag (aB (pv 2))))),?_⟩
 refine⟨bj _,λl hl=>?_⟩;have s0:aa H (upd H l (.lst [])):=aa.new hl;have jh:=ck cg;refine⟨_,U,c,_,U,ab.of (s0 _ _ hc),Ln 3 4 (λi σ H'=>∃(u w:Option V),σ=[some (.ref a),some (.ref c),some (.ref l),u,w]/\ aa H H'/\ H' l=some (.lst ((df sep (ts.take i)).map bI)))
  ⟨none,none,U,s0,by rw[List.take_zero];exact ae⟩ (λi σ H' _ ⟨_,_,_,sm,_⟩=>ab.of (sm _ _ hc)) ?_ ?_⟩
 ·rintro i x σ H' T hx ⟨u,w,rfl,sm,hv⟩ hT
  obtain⟨y,hy,z,rfl,hz⟩:=fB cg hx;have s1:aa H' (upd H' T (.tup [.int (i:Int), .ref z])):=aa.new hT;have b0:=NU sep ts i hlen;have b1:=NU sep ts (i+1) hlen;have ej:df sep (ts.take (i+1))=if ts.take i=[]then y else df sep (ts.take i)++sep++y:=by rw[iy hy,HR]
  have hi:=dm hy;refine⟨_,U,_,_,U,U,_,U,b9 (λh=>?_) (λh=>?_)⟩
  ·have hp:0<i:=by have:=of_decide_eq_true h;omega
   have ne:ts.take i≠ []:=by
    intro e;rcases List.take_eq_nil_iff.mp e with e|e
    ·omega
    ·rw[e]at hi;simp at hi
   rw[if_neg ne]at ej;rw[ej,bL,bL]at b1;refine⟨_,U, .inl ⟨U,_,ab.of (s1 _ _ hv)⟩,_,U,l,a,_,_,U,U,s1 _ _ hv,s1 _ _ (sm _ _ ha),fC (by simp;omega),?_⟩;have mi:=s1 _ _ (sm _ _ hz);rw[<-aD (H:=upd H' T _) (o:= .lst ((df sep (ts.take i)).map bI++sep.map bI)) (bS hz hl)]at mi;refine⟨_,U, .inl ⟨U,_,ab.of ae⟩,_,U,l,z,_,_,U,U,ae,mi,fC (by simp;omega),?_⟩;refine⟨_,_,U,c5 (c5 (sm.trans s1) hl) hl,?_⟩;rw[ae,ej];simp
  ·have hp:i=0:=by
    have:¬(0:Int)<(i:Int):=λc=>h (decide_eq_true c);omega
   subst hp;rw[if_pos (by simp)]at ej;rw[ej]at b1;refine⟨_,U, .inl ⟨U,_,ab.of (s1 _ _ hv)⟩,_,U,l,z,_,_,U,U,s1 _ _ hv,s1 _ _ (sm _ _ hz),fC (by simp[df];exact b1),?_⟩;refine⟨_,_,U,c5 (sm.trans s1) hl,?_⟩;rw[ae,ej];simp[df]
 ·rintro σ H' ⟨u,w,rfl,sm,hv⟩
  refine⟨_,U,k l H' sm hl ?_⟩;rw[hv,pF (by omega)]
theorem gm:(2:Nat)<=sizeLine:=by decide
theorem cu:(1:Nat)<=sizeLine:=by decide
theorem wO:(3:Nat)<=sizeLine:=by decide
theorem oY{a b:Int}(h:V.int a=V.int b):a=b:=by injection h
theorem uv(a b:Int):decide (V.int a=V.int b)=decide (a=b):=decide_eq_decide.mpr ⟨oY,λh=>h▸rfl⟩
theorem jH(a b:Nat):decide (V.int (a:Int)=V.int (b:Int))=decide (a=b):=by rw[uv];exact decide_eq_decide.mpr (by omega)
def Y_:Sp:=λvs H Q _=>∃(a:Addr) (k:Nat) (u:V),vs=[.ref a]/\ H a=some (.tup [.int (k:Int),u])/\ Q (.bl (decide (k=2)||decide (k=3))) H
theorem mw(T:Txt K mg A):Gd P w K mg base 1 A.DU A.Lz ["node"] Y_:=by
 refine T.Xm.go (N:=["node"]) ?_;rintro aC A' outer s H vs Q E hr nd ⟨a,k,u,rfl,ha,q⟩;refine⟨_,(ag (aB (JX (lq cj (cW (pv 0) ak) (aW T.wG)) (rA (lq cj (cW (pv 0) ak) (aW T.z9)))))),?_⟩;refine⟨_,U,_,_,_,_,U,U,bz.of ha,bT,U,_,U,b9 (λh=>?_) (λh=>?_)⟩
 ·have e:k=2:=by have:=oY (of_decide_eq_true h);omega
  subst e;exact q
 ·have e:¬k=2:=λc=>h (decide_eq_true (by rw[c];rfl))
  refine⟨_,U,_,_,_,_,U,U,bz.of ha,bT,U,?_⟩;rw[decide_eq_false e,uZ]at q;rw[show(3:Int)=((3:Nat):Int)from rfl,jH];exact q
theorem nG{x:Node}(h:x.1<4):(decide (x.1=2)||decide (x.1=3))=bR x:=by
 unfold bR;by_cases c:2<=x.1
 ·rw[decide_eq_true c]
  by_cases d:x.1=2
  ·simp[d]
  ·have:x.1=3:=by omega
   simp[this]
 ·rw[decide_eq_false c,decide_eq_false (by omega),decide_eq_false (by omega)];rfl
def Y':Sp:=λvs H Q _=>∃(P:Addr->Prop) (v:V) (t:Text),vs=[v]/\ bG H v t/\ Hid P H/\ ∀v' H',aa H H'->cT (Wo P H') v' [(0,t)]->Q v' H'
theorem Za(T:Txt K mg A):Gd P w K mg base 1 A.DV A.LB ["name"] Y':=by refine T.Xn.go (N:=["name"]) ?_;rintro aC A' outer s H vs Q E hr nd ⟨P,v,t,rfl,⟨a,rfl,ha⟩,hP,q⟩;refine⟨_,(ag (aB (aS (aj (gh (aY (aW T.VI) (oG TQ (by rfl) T.VC Vp (aj (pv 0))))))))),?_⟩;refine⟨_,U,a,_,U, .inl ⟨ab.of ha,λp hp=>⟨gm,λn hn=>⟨cu,λl hl=>?_⟩⟩⟩⟩;have s1:=aa.new (o:= .tup (t.map bI)) hp;have s2:=aa.new (o:= .tup [.int 0, .ref p]) hn;have s3:=aa.new (o:= .lst [.ref n]) hl;have P1:=hP.mono s1;have P2:=P1.mono s2;refine q _ _ ((s1.trans s2).trans s3) ⟨l,_,U,e9 P2 hl,qc ⟨n, .ref p,U,bV s3 _ _ (e9 P1 hn),p,U,bV (s2.trans s3) _ _ (e9 hP hp)⟩⟩
def NV:Sp:=λvs H Q _=>∃(P:Addr->Prop) (k:Nat) (v w:V) (l m:List Node),vs=[.int (k:Int),v,w]/\ cT (Wo P H) v l/\ cT (Wo P H) w m/\ l.length+m.length<=100000/\ Hid P H/\ ∀v' H',aa H H'->cT (Wo P H') v' ((k,[])::(l++m))->Q v' H'
theorem NW(T:Txt K mg A):Gd P w K mg base 1 A.DW A.LC ["kind","first","second"] NV:=by refine T.Xo.go (N:=["kind","first","second"]) ?_;rintro aC A' outer s H vs Q E hr nd ⟨P,k,v,w,l,m,rfl,⟨a,xs,rfl,ha,cg⟩,⟨b,ys,rfl,hb,lB⟩,hlen,hP,q⟩;refine⟨_,(ag (aB (b_ gz (b_ gz (aS (aj (gh (aY (pv 0) (gh bY))))) (pv 1)) (pv 2)))),?_⟩;have l1:=ck cg;have l2:=ck lB;refine⟨_,U,bj _,λe he=>⟨gm,λn hn=>⟨cu,λc hc=>?_⟩⟩⟩;have s1:=aa.new (o:= .tup []) he;have s2:=aa.new (o:= .tup [.int (k:Int), .ref e]) hn;have s3:=aa.new (o:= .lst [.ref n]) hc;have P1:=hP.mono s1;have P2:=P1.mono s2;have P3:=P2.mono s3;have cU:=(s1.trans s2).trans s3;refine⟨_,U,c,a,_,_,U,U,ae,cU _ _ (bB _ _ _ _ ha),fC (by simp;omega),λp hp=>?_⟩;have s4:=aa.new (o:= .lst ([.ref n]++xs)) hp;have P4:=P3.mono s4;refine⟨_,U,p,b,_,_,U,U,ae,(cU.trans s4) _ _ (bB _ _ _ _ hb),fC (by simp;omega),λr hr=>?_⟩;have s5:=aa.new (o:= .lst (([.ref n]++xs)++ys)) hr;have wQ:=(cU.trans s4).trans s5;have up:∀(z:V) (x:Node),bZ (Wo P H) z x->bZ (Wo P (upd _ r (.lst (([.ref n]++xs)++ys)))) z x:=λz x h=>bZ.mono _ _ _ _ (bV wQ) h;refine q _ _ wQ ⟨r,_,U,e9 P4 hr,?_⟩;refine qb (a:=[.ref n]++xs) (b:=(k,[])::l) (.cons ⟨n, .ref e,U,bV ((s3.trans s4).trans s5) _ _ (e9 P1 hn),e,U,bV ((s2.trans s3).trans (s4.trans s5)) _ _ (e9 hP he)⟩ (bO up cg)) (bO up lB)
theorem Zb{k:Nat}(h:k<4):gi [V.int 1,V.int 0,V.int 3,V.int 2] (k:Int)=some (.int (yi k:Int)):=by
 match k,h with
 |0,_=>exact bH (j:=0) U
 |1,_=>exact bH (j:=1) U
 |2,_=>exact bH (j:=2) U
 |3,_=>exact bH (j:=3) U
def Zc:Sp:=λvs H Q _=>∃(P:Addr->Prop) (v:V) (l:List Node),vs=[v]/\ cT (Wo P H) v l/\ (∀x∈l,x.1<4)/\ l.length<=100000/\ Hid P H/\ ∀v' H',aa H H'->cT (Wo P H') v' (l.map qR)->Q v' H'
theorem wR(T:Txt K mg A):Gd P w K mg base 1 A.DX A.LD ["formula"] Zc:=by
 refine T.Xp.go (N:=["formula","node"]) ?_;rintro aC A' outer s H vs Q E hr nd ⟨P,v,l,rfl,⟨a,xs,rfl,ha,cg⟩,hk,hlen,hP,q⟩;refine⟨_,(ag (aB (mj U nd (eE (pv 0)) (jF (own:=[("node",1)]) (by show iS ["formula","node"] (d5 (top 31)) _ _=true;decide+kernel)) (λ_ _ _ _ _=>(cx 1 nd)) (λ_ _ _ _ _=>oN) (λ_ _ _ _ _=>(gh (aY (ug (K:=K) U (DO T.VL) (ug (K:=K) U (pv 1) ak)) (ug (K:=K) U (pv 1) ak))))))),?_⟩;have hl:=ck cg;have gM:=bB _ _ _ _ ha;refine⟨_,U,a,U,⟨_,ab.of gM⟩,λD hD=>oS P bZ bZ.mono l (λx=>some (qR x)) hD hP (by omega) (ab.of gM) hl ?_ ?_⟩
 ·intro i H1 x y hx hy s aH Ky Kn mx hn
  obtain⟨y',kZ,r⟩:=fB cg hx;have e:y'=y:=ay (kZ.symm.trans hy);subst e;obtain⟨n,u,rfl,nH,m,rfl,hm⟩:=r;have rV:=s _ _ (bB _ _ _ _ nH);refine⟨U,oX ?_⟩;refine⟨_,U,_,_,_,_,U,U,bz.of rV,bT,_,_,_,_,U,U,T.VM _,Zb (hk _ (bC hy)),_,U,_,_,_,_,U,U,bz.of rV,fO,gm,λt ht=>?_⟩;have s1:=aa.new (o:= .tup [.int (yi y'.1:Int), .ref m]) ht;exact mx _ _ _ U s1 ⟨t, .ref m,U,e9 aH ht,m,U,qe hD (s.trans s1) _ _ hm⟩
 ·intro H1 acc s cH aH hp
  refine q _ _ s ⟨D,acc,U,?_,?_⟩
  ·rw[cR (hP.not hD)];exact cH
  ·rw[sY]at hp
   exact bO (λ_ _ r=>bZ.mono _ _ _ _ qg r) hp
def Zd:Sp:=λvs H Q _=>∃(P:Addr->Prop) (v:V) (l:List Node),vs=[v]/\ cT (Wo P H) v l/\ (∀x∈l,x.1<4)/\ l.length<=100000/\ Hid P H/\ ∀v' H',aa H H'->cT (Wo P H') v' (l.filter λx=> !bR x)->Q v' H'
theorem NX(T:Txt K mg A):Gd P w K mg base 2 A.DY A.LF ["formula"] Zd:=by
 refine T.Xq.go (N:=["formula","node"]) ?_;rintro aC A' outer s H vs Q E hr nd ⟨P,v,l,rfl,⟨a,xs,rfl,ha,cg⟩,hk,hlen,hP,q⟩;refine⟨_,(ag (aB (mj U nd (eE (pv 0)) (jF (own:=[("node",1)]) (by show iS ["formula","node"] (d5 (top 32)) _ _=true;decide+kernel)) (λ_ _ _ _ _=>(cx 1 nd)) (λ_ _ _ _ _=>(wg (ij (dC (aP hr (mw T) T.mq (aj (pv 1))))))) (λ_ _ _ _ _=>(pv 1))))),?_⟩;have hl:=ck cg;have gM:=bB _ _ _ _ ha;refine⟨_,U,a,U,⟨_,ab.of gM⟩,λD hD=>oS P bZ bZ.mono l (λx=>if !bR x then some x else none) hD hP (by omega) (ab.of gM) hl ?_ ?_⟩
 ·intro i H1 x y hx hy s aH Ky Kn mx hn
  obtain⟨y',kZ,r⟩:=fB cg hx;have e:y'=y:=ay (kZ.symm.trans hy);subst e;have gO:=hk _ (bC hy);have r2:=r;obtain⟨n,u,rfl,nH,m,rfl,hm⟩:=r;refine⟨U,_,U,n,_,_,U,s _ _ (bB _ _ _ _ nH),_,U,?_⟩;rw[nG gO];cases hj:bR y' with
  |true=>exact hn _ (by rw[hj];rfl) (aa.refl _)
  |false=>exact⟨_,U,mx _ _ _ (by rw[hj];rfl) (aa.refl _) (bZ.mono _ _ _ _ (qe hD s) r2)⟩
 ·intro H1 acc s cH aH hp
  refine q _ _ s ⟨D,acc,U,?_,?_⟩
  ·rw[cR (hP.not hD)];exact cH
  ·have e:l.filterMap (λx=>if !bR x then some x else none)=l.filter λx=> !bR x:=by
    rw[<-List.filterMap_eq_filter];rfl
   rw[e]at hp;exact bO (λ_ _ r=>bZ.mono _ _ _ _ qg r) hp
def uw(l:List Nat):List V:=l.reverse.map λ(n:Nat)=>V.int (n:Int)
theorem oZ{α:Type}(l:List α)(x:α):(l++[x])[(l++[x]).length-1]? =some x:=by simp
theorem Ah(a:Nat)(l:List Nat):uw (a::l)=uw l++[V.int (a:Int)]:=by unfold uw;simp
theorem Ze(a b:Nat):(if(b:Int)>(a:Int)then(b:Int)else(a:Int))=((max a b:Nat):Int):=by
 by_cases h:b>a
 ·rw[if_pos (by omega)];omega
 ·rw[if_neg (by omega)];omega
def Zf:Sp:=λvs H Q _=>∃(v:V) (F:Formula),vs=[v]/\ dj H v F/\ nodes F<=100000/\ ∀H',aa H H'->Q (.int (Vaneta.deep F:Int)) H'
theorem Zg(T:Txt K mg A):Gd P w K mg base 2 A.DZ A.LG ["formula"] Zf:=by
 refine T.Xr.go (N:=["formula","depths","node","first","second"]) ?_;rintro aC A' outer s H vs Q E hr nd ⟨v,F,rfl,⟨hF,a,xs,rfl,ha,cg⟩,hlen,q⟩;refine⟨_,(af (aN 1 nd (aS bY))
  (af (eZ PassesOwn.never U (K3 (by rfl) T.FA (aj (pv 0))) (cx 2 nd) (ag (a9 (dC (aP hr (mw T) T.mq (aj (pv 2)))) (af (aN 3 nd (oJ PySem.F.plainAttrs_list PySem.F.slot_list_pop PySem.F.type_list_pop oK (pv 1)))
  (af (aN 4 nd (oJ PySem.F.plainAttrs_list PySem.F.slot_list_pop PySem.F.type_list_pop oK (pv 1)))
  (ag (bF (dD (pv 1) (b_ jd ak (pY (SU U) (by rfl) T.Vz Vo (aY (pv 3) (pv 4))))))))) (ag (bF (dD (pv 1) ak))))))
  (ag (aB (aT (pv 1) ak))))),?_⟩
 have hl:=ck cg;have hn:=bJ F;refine⟨bj _,λl dY=>?_⟩;have s0:aa H (upd H l (.lst [])):=aa.new dY;refine⟨_,U,a,xs,U,ab.of (s0 _ _ ha),Lo (λi σ H'=>∃u v w:Option V,σ=[some (.ref a),some (.ref l),u,v,w]/\ aa H H'/\ H' l=some (.lst (uw (((enc F).drop ((enc F).length-i)).foldr mZ []))))
  ⟨none,none,none,U,s0,by rw[jr,lG];exact ae⟩ (λi σ H' _ ⟨_,_,_,_,sm,_⟩=>ab.of (sm _ _ ha)) ?_ ?_⟩
 ·rintro i x σ H' hx ⟨u,v,w,rfl,sm,hv⟩
  obtain⟨y,hy,r⟩:=fB (DK cg) hx;obtain⟨hd,k,hk,hj⟩:=JA hF hy;have cD:=Jy _ _ hk;have gO:=jt F hF y (Bj.mp (bC hy));have hi:i<nodes F:=by have:=dm hy;simpa [hn]using this
  have Zh:k<=nodes F:=by have:=Cw _ _ hk;rw[iE]at this;omega
  obtain⟨n,u',rfl,nH,_⟩:=r;refine⟨_,U,n,_,_,U,sm _ _ nH,_,U,?_⟩;rw[nG gO,hd,nW];generalize ((enc F).drop ((enc F).length-i)).foldr mZ []=st at hv cD⊢;cases rW:bR y with
  |false=>refine aA ?_;refine⟨_,U, .inl ⟨U,_,ab.of hv⟩,l,_,_,U,U,hv,dk (by unfold uw;simp;omega),_,_,_,U,c5 sm dY,?_⟩;rw[ae,show mZ y st=1::st by unfold mZ;rw[rW];rfl,Ah];rfl
  |true=>
   refine aJ ?_;have h2:=hj rW;match st,cD,hv with
   |a1::b1::q1,cD,hv=>rw[Ah,Ah]at hv;refine⟨_,U, .inl ⟨U,_,ab.of hv⟩,l,_,_,U,U,hv,oZ _ _,?_⟩;rw[oe];refine⟨_,U, .inl ⟨U,_,ab.of ae⟩,l,_,_,U,U,ae,oZ _ _,?_⟩;rw[oe,jz];refine⟨_,U, .inl ⟨U,_,ab.of ae⟩,_,U,_,U,_,_,U,_,_,U,U,l,_,_,U,U,ae,dk (by unfold uw;simp at cD⊢;omega),_,_,_,U,c5 (c5 sm dY) dY,?_⟩;rw[ae,show mZ y (a1::b1::q1)=(1+max a1 b1)::q1 by unfold mZ;rw[rW];rfl,Ah,Ze];simp
   |[a1],cD,hv|[],cD,hv=>simp at cD;omega
 ·rintro σ H' ⟨u,v,w,rfl,sm,hv⟩
  rw[hl,qN,kL,dfold F hF]at hv;exact⟨_,U,l,_,_,_,U,U,ab.of hv,bT,q _ sm⟩
def Zi:Sp:=λvs H Q _=>∃(v:V) (F:Formula),vs=[v]/\ dj H v F/\ nodes F<=100000/\ ∀H',aa H H'->Q (.bl (inBounds F)) H'
theorem Zj(T:Txt K mg A):Gd P w K mg base 3 A.D2 A.LH ["formula"] Zi:=by
 refine T.Xs.go (N:=["formula"]) ?_;rintro aC A' outer s H vs Q E hr nd ⟨v,F,rfl,hv,hlen,q⟩;refine⟨_,(ag (aB (vN (lq j6 (dw T.c6 (aP hr (NX T) T.Nt (aj (pv 0)))) (aW T.VN)) (rA (lq j6 (aP hr (Zg T) T.Wk (aj (pv 0))) (aW T.VO)))))),?_⟩;have hF:=hv.1;have hn:=bJ F;have hN:cT (Wo (λ_=>False) H) v (enc F):=by rw[mn];exact hv.2
 refine⟨_,U,(λ_=>False),v,enc F,U,hN,jt F hF,by omega,Hid.none _,λv' H1 s1 h1=>?_⟩;obtain⟨c,ys,rfl,hc,lB⟩:=h1;have hl:=ck lB;rw[u_,aI,qS]at hl;refine⟨c,ys,U, .inl (ab.of (bB _ _ _ _ hc)),_,_,U,U,_,U,b9 (λh=>?_) (λh=>?_)⟩
 ·refine⟨_,U,v,F,U,dj.mono _ _ _ _ s1 hv,hlen,λH2 s2=>⟨_,_,U,U,?_⟩⟩
  have e:=of_decide_eq_true h;rw[hl]at e;have:=q H2 (s1.trans s2);rw[HN hF,decide_eq_true (by omega),mV]at this;show Q (.bl (decide ((Vaneta.deep F:Int)<=40))) H2;rw[show decide ((Vaneta.deep F:Int)<=40)=decide (Vaneta.deep F<=40)from decide_eq_decide.mpr (by omega)];exact this
 ·have e:¬((ys.length:Int)<=60):=λc=>h (decide_eq_true c)
  rw[hl]at e;have:=q H1 s1;rw[HN hF,decide_eq_false (by omega),n8]at this;exact this
def iV(H:Hp)(Q:VK)(xs:List V):Prop:=∀a H',aa H H'->H a=none->H' a=some (.lst xs)->Q (.ref a) H'
def Zk:Sp:=λvs H Q _=>∃(v:V) (t:Text),vs=[v]/\ bG H v t/\ t.length<=100000/\ iV H Q ((40::(t++[41])).map bI)
theorem NY(T:Txt K mg A):Gd P w K mg base 1 A.D6 A.LL ["text"] Zk:=by refine T.Xw.go (N:=["text"]) ?_;rintro aC A' outer s H vs Q E hr nd ⟨v,t,rfl,⟨a,rfl,ha⟩,hlen,q⟩;refine⟨_,(ag (aB (b_ gz (b_ gz (aS (aj (aW T.z7))) (pv 0)) (aS (aj (aW T.FC)))))),?_⟩;refine⟨cu,λl hl=>?_⟩;have s1:=aa.new (o:= .lst [V.int 40]) hl;refine⟨_,U,l,a,_,_,U,U,ae,s1 _ _ ha,fC (by simp;omega),λp hp=>?_⟩;have s2:=aa.new (o:= .lst ([V.int 40]++t.map bI)) hp;refine⟨cu,λr hr=>?_⟩;have s3:=aa.new (o:= .lst [V.int 41]) hr;refine⟨p,r,_,_,U,U,s3 _ _ ae,ae,fC (by simp;omega),λz hz=>?_⟩;have s4:=aa.new (o:= .lst (([V.int 40]++t.map bI)++[V.int 41])) hz;refine q z _ ((s1.trans s2).trans (s3.trans s4)) (((s1.trans s2).trans s3).free hz) ?_;rw[ae];simp[bI]
def rX(H:Hp)(v:V)(x:Wr):Prop:=∃a u,v= .ref a/\ H a=some (.tup [.int (x.1:Int),u])/\ bG H u x.2
theorem rX.mono:eP rX:=λ_ _ _ _ s ⟨a,u,e,h,n⟩=>⟨a,u,e,s _ _ h,bG.mono _ _ _ _ s n⟩
def Zl:Sp:=λvs H Q _=>∃(v:V) (x:Node),vs=[v]/\ bZ H v x/\ x.2.length<=100000/\ iV H Q ((qV x).map bI)
theorem Zm(T:Txt K mg A):Gd P w K mg base 1 A.D4 A.LJ ["node"] Zl:=by
 refine T.Xu.go (N:=["node"]) ?_;rintro aC A' outer s H vs Q E hr nd ⟨v,x,rfl,⟨a,u,rfl,ha,m,rfl,hm⟩,hlen,q⟩;refine⟨_,(af (a9 (aR cj (cW (pv 0) ak) (aW T.VJ)) (ag (aB (b_ gz (aS (aj (aW T.z8))) (oG C_ (by rfl) T.wC DM (aj (cW (pv 0) ak)))))) bt)
  (ag (aB (oG C_ (by rfl) T.wC DM (aj (cW (pv 0) ak)))))),?_⟩
 refine⟨_,U,_,_,_,_,U,U,bz.of ha,bT,U,_,U,b9 (λh=>?_) (λh=>?_)⟩
 ·have e:x.1=1:=by have:=oY (of_decide_eq_true h);omega
  refine⟨cu,λl hl=>?_⟩;have s1:=aa.new (o:= .lst [V.int 126]) hl;refine⟨_,U,_,_,_,_,U,U,bz.of (s1 _ _ ha),fO,m,_,U, .inr (bz.of (s1 _ _ hm)),λp hp=>?_⟩;have s2:=aa.new (o:= .lst (x.2.map bI)) hp;refine⟨l,p,_,_,U,U,s2 _ _ ae,ae,fC (by simp;omega),λz hz=>?_⟩;have s3:=aa.new (o:= .lst ([V.int 126]++x.2.map bI)) hz;refine q z _ ((s1.trans s2).trans s3) ((s1.trans s2).free hz) ?_;rw[ae];unfold qV;rw[if_pos e];rfl
 ·have e:¬x.1=1:=λc=>h (decide_eq_true (by rw[c];rfl))
  refine⟨_,U,_,_,_,_,U,U,bz.of ha,fO,m,_,U, .inr (bz.of hm),λp hp=>?_⟩;refine q p _ (aa.new hp) hp ?_;rw[ae];unfold qV;rw[if_neg e]
def Zn:Sp:=λvs H Q _=>∃(k:Nat) (v w:V) (x y:Wr),vs=[.int (k:Int),v,w]/\ rX H v x/\ rX H w y/\ x.1<4/\ y.1<4/\ x.2.length+y.2.length<=100000/\ iV H Q ((oj k x y).map bI)
theorem NZ{n:Nat}(h:n<4):(decide (n=2)||decide (n=3))=decide (2<=n):=nG (x:=(n,[])) h
theorem Zo(T:Txt K mg A):Gd P w K mg base 2 A.D5 A.LK ["kind","first","second"] Zn:=by
 refine T.Xv.go (N:=["kind","first","second","left","right"]) ?_;rintro aC A' outer s H vs Q E hr nd ⟨k,v,w,x,y,rfl,⟨a,u,rfl,ha,c,rfl,hc⟩,⟨b,u',rfl,hb,d,rfl,hd⟩,hx,hy,hlen,q⟩;refine⟨_,(af (aN 3 nd (cW (pv 1) ak))
  (af (a9 (dC (aP hr (mw T) T.mq (aj (pv 1)))) (ag (aN 3 nd (aP hr (NY T) T.Nu (aj (pv 3))))) bt)
  (af (aN 4 nd (cW (pv 2) ak))
  (af (a9 (PW.pt (tU (dC (aP hr (mw T) T.mq (aj (pv 2)))) (tT (aR t5 (cW (pv 2) ak) (pv 0))))) (ag (aN 4 nd (aP hr (NY T) T.Nu (aj (pv 4))))) bt)
  (ag (aB (b_ gz (b_ gz (pv 3) (aS (aj (kW (aR cj (pv 0) (aW T.wG)) (aW T.uh) (aW T.wF))))) (pv 4)))))))),?_⟩
 have fin:∀(H1:Hp) (p r:Addr) (A B:Text),aa H H1->bG H1 (.ref p) A->bG H1 (.ref r) B->A.length+B.length<=100010->oj k x y=A++(if k=2 then 42 else 124)::B->
   (cw rQ (cw rQ (aZ 3) (zp (d_ (rB (l_ (cw l9 (aZ 0) (tC (.int 2)))) (tC (.int 42)) (tC (.int 124))) eI))) (aZ 4)) [some (.int (k:Int)),some (.ref a),some (.ref b),some (.ref p),some (.ref r)] H1 Q:=by
  intro H1 p r A B s1 ⟨p',ep,hp⟩ ⟨r',er,hr⟩ hl ej;cases ep;cases er;refine⟨_,U,_,U,U,_,U,?_⟩;have key:∀z:UInt8,(if k=2 then(42:UInt8)else 124)=z->zp (λσ H Q=>Q [bI z] H) [some (.int (k:Int)),some (.ref a),some (.ref b),some (.ref p),some (.ref r)] H1 (λy H2=>rQ (.ref p) y H2 λx H3=>aZ 4 [some (.int (k:Int)),some (.ref a),some (.ref b),some (.ref p),some (.ref r)] H3 λy H4=>rQ x y H4 Q):=by intro z hz;refine⟨cu,λl qo=>?_⟩;have s2:=aa.new (o:= .lst [bI z]) qo;refine⟨p,l,_,_,U,U,s2 _ _ hp,ae,fC (by simp;omega),λg hg=>?_⟩;have s3:=aa.new (o:= .lst (A.map bI++[bI z])) hg;refine⟨_,U,g,r,_,_,U,U,ae,(s2.trans s3) _ _ hr,fC (by simp;omega),λf hf=>?_⟩;have s4:=aa.new (o:= .lst ((A.map bI++[bI z])++B.map bI)) hf;refine q f _ ((s1.trans s2).trans (s3.trans s4)) (((s1.trans s2).trans s3).free hf) ?_;rw[ae,ej,hz];simp
  refine b9 (λh=>?_) (λh=>?_)
  ·have e:k=2:=by have:=oY (of_decide_eq_true h);omega
   exact key 42 (if_pos e)
  ·have e:¬k=2:=λc=>h (decide_eq_true (by rw[c];rfl))
   exact key 124 (if_neg e)
 refine⟨_,U,_,_,_,_,U,U,bz.of ha,fO,?_⟩;refine⟨_,U,a,x.1,_,U,ha,_,U,?_⟩;rw[NZ hx];refine Ll (λσ' H'=>∃p A,σ'=[some (.int (k:Int)),some (.ref a),some (.ref b),some (.ref p),none]/\ aa H H'/\ bG H' (.ref p) A/\ A.length<=x.2.length+2/\ A=paren (decide (2<=x.1)) x.2) ?_ ?_ ?_
 ·rintro σ' H1 ⟨p,A,rfl,s1,hA,hl,eA⟩
  refine⟨_,U,_,_,_,_,U,U,bz.of (s1 _ _ hb),fO,?_⟩;refine⟨_,U,b,y.1,_,U,s1 _ _ hb,_,U,?_⟩;rw[NZ hy];have last:∀(H2:Hp) (r:Addr) (B:Text),aa H1 H2->bG H2 (.ref r) B->B.length<=y.2.length+2->B=paren (decide (2<=y.1)&&y.1 !=k) y.2->
    (cw rQ (cw rQ (aZ 3) (zp (d_ (rB (l_ (cw l9 (aZ 0) (tC (.int 2)))) (tC (.int 42)) (tC (.int 124))) eI))) (aZ 4)) [some (.int (k:Int)),some (.ref a),some (.ref b),some (.ref p),some (.ref r)] H2 Q:=λH2 r B s2 hB fh eB=>
   fin H2 p r A B (s1.trans s2) (bG.mono _ _ _ _ s2 hA) hB (by omega) (by rw[eA,eB];rfl)
  refine b9 (λh=>?_) (λh=>?_)
  ·refine⟨_,U,_,_,_,_,U,U,bz.of (s1 _ _ hb),bT,_,U,U,_,U,?_⟩
   refine b9 (λh'=>?_) (λh'=>?_)
   ·refine⟨_,U, .ref d,y.2,U,⟨d,U,s1 _ _ hd⟩,by omega,λr H2 s2 _ hr=>?_⟩
    refine last H2 r _ s2 ⟨r,U,hr⟩ (by simp) ?_;rw[h,show(y.1 !=k)=true by rw[jH]at h';simpa using h'];rfl
   ·refine last H1 d _ (aa.refl _) ⟨d,U,s1 _ _ hd⟩ (by omega) ?_
    rw[show(y.1 !=k)=false by rw[jH]at h';simpa using h',n_];rfl
  ·refine last H1 d _ (aa.refl _) ⟨d,U,s1 _ _ hd⟩ (by omega) ?_
   rw[sW.mpr h,n8];rfl
 ·intro h K
  refine⟨_,U, .ref c,x.2,U,⟨c,U,hc⟩,by omega,λp H1 s1 _ hp=>?_⟩;exact K _ _ ⟨p,_,U,s1,⟨p,U,hp⟩,by simp,by rw[h];rfl⟩
 ·intro h
  exact⟨c,x.2,U,aa.refl _,⟨c,U,hc⟩,by omega,by rw[sW.mpr h];rfl⟩
theorem N0{A:Formula}(h:multiplicative A=true):∀(l:List Node),(∀x∈l,x.1<4)->∀x∈l.foldr gW [],x.1<4
 |[],_,x,hx=>by simp at hx
 |y::r,hk,x,hx=>by
  have ih:=N0 h r λz hz=>hk z (by simp[hz]);rw[nW]at hx;generalize r.foldr gW []=st at ih hx;unfold gW at hx;split at hx
  ·split at hx
   ·rcases a_.mp hx with rfl|hx
    ·exact hk y (by simp)
    ·exact ih x (by simp[hx])
   ·exact ih x hx
  ·rcases a_.mp hx with rfl|hx
   ·exact hk y (by simp)
   ·exact ih x hx
def qp(H0 H:Hp)(v:V)(x:Wr):Prop:=∃a c,v= .ref a/\ H a=some (.tup [.int (x.1:Int), .ref c])/\ H c=some (.lst (x.2.map bI))/\ H0 c=none
theorem qp.wr{H0 H:Hp}{v:V}{x:Wr}(h:qp H0 H v x):rX H v x:=by obtain⟨a,c,e,h1,h2,_⟩:=h;exact⟨a, .ref c,e,h1,c,U,h2⟩
theorem qp.km{H0:Hp}:eP (qp H0):=λ_ _ _ _ s ⟨a,c,e,h,n,f⟩=>⟨a,c,e,s _ _ h,s _ _ n,f⟩
def Zp:Sp:=λvs H Q _=>∃(v:V) (F:Formula),vs=[v]/\ dj H v F/\ nodes F<=2000/\ nm (enc F)/\ iV H Q ((form F).map bI)
theorem Zq(T:Txt K mg A):Gd P w K mg base 3 A.D3 A.LI ["formula"] Zp:=by
 refine T.Xt.go (N:=["formula","written","node","first","second"]) ?_;rintro aC A' outer s H vs Q E hr nd ⟨v,F,rfl,⟨hF,a,xs,rfl,ha,cg⟩,hlen,Ai,q⟩;refine⟨_,(af (aN 1 nd (aS bY))
  (af (eZ PassesOwn.never U (K3 (by rfl) T.FA (aj (pv 0))) (cx 2 nd) (ag (a9 (dC (aP hr (mw T) T.mq (aj (pv 2)))) (af (aN 3 nd (oJ PySem.F.plainAttrs_list PySem.F.slot_list_pop PySem.F.type_list_pop oK (pv 1)))
  (af (aN 4 nd (oJ PySem.F.plainAttrs_list PySem.F.slot_list_pop PySem.F.type_list_pop oK (pv 1)))
  (ag (bF (dD (pv 1) (gh (aY (cW (pv 2) ak) (aP hr (Zo T) T.Wq (fM (cW (pv 2) ak) (aY (pv 3) (pv 4))))))))))) (ag (bF (dD (pv 1) (gh (aY (cW (pv 2) ak) (aP hr (Zm T) T.Wn (aj (pv 2)))))))))))
  (ag (aB (cW (aT (pv 1) ak) ak))))),?_⟩
 have hl:=ck cg;have hn:=bJ F;refine⟨bj _,λl dY=>?_⟩;have s0:aa H (upd H l (.lst [])):=aa.new dY;refine⟨_,U,a,xs,U,ab.of (s0 _ _ ha),Lo (λi σ H'=>∃(u v w:Option V) (vs:List V),σ=[some (.ref a),some (.ref l),u,v,w]/\ aa H H'/\ H' l=some (.lst vs)/\ Paired (qp (upd H l (.lst [])) (Wo (λb=>b=l) H')) vs (((enc F).drop ((enc F).length-i)).foldr gW []).reverse)
  ⟨none,none,none,[],U,s0,ae,by rw[jr,lG];exact .nil⟩ (λi σ H' _ ⟨_,_,_,_,_,sm,_⟩=>ab.of (sm _ _ ha)) ?_ ?_⟩
 ·rintro i x σ H' hx ⟨u,v,w,vs,rfl,sm,hv,hp⟩
  obtain⟨y,hy,r⟩:=fB (DK cg) hx;obtain⟨hd,k,hk,hj⟩:=JA hF hy;have cD:=Jz _ _ hk;have hyF:=Bj.mp (bC hy);have gO:=jt F hF y hyF;have hi:i<nodes F:=by have:=dm hy;simpa [hn]using this
  have Zh:k<=nodes F:=by have:=Cw _ _ hk;rw[iE]at this;omega
  have gk:=ck hp;rw[sZ,cD]at gk;have hw:wsum (((enc F).drop ((enc F).length-i)).foldr gW [])<=100000:=by refine cO (Cz _) (cO (yY λz hz=>Ai z (xV hz)) ?_);rw[iE];omega
  have o5:=N0 hF ((enc F).drop ((enc F).length-i)) λz hz=>jt F hF z (xV hz);have hlH:∀H2,aa H' H2->H2 l=some (.lst vs):=λH2 s=>s _ _ hv;have aH:Hid (λb=>b=l) H':=λb hb e=>by rw[hb,hv]at e;cases e
  have rN:=bZ.mono _ _ _ _ sm r;obtain⟨n,u',rfl,nH,_⟩:=r;refine⟨_,U,n,_,_,U,sm _ _ nH,_,U,?_⟩;rw[nG gO,hd,nW];generalize ((enc F).drop ((enc F).length-i)).foldr gW []=st at hp cD hw o5⊢;have fr:∀c,H' c=none->upd H l (.lst []) c=none:=λc hc=>by
   by_cases bD:c=l
   ·subst bD;rw[hv]at hc;cases hc
   ·rw[aD bD];exact sm.free hc
  cases rW:bR y with
  |false=>
   refine aA ?_;refine⟨_,U, .inl ⟨U,_,ab.of hv⟩,_,U,_,_,_,_,U,U,bz.of (sm _ _ nH),bT,_,U, .ref n,y,U,rN,cO (Ai y hyF) (by decide),λc H2 s2 hc jI=>⟨gm,λp nJ=>?_⟩⟩;have s3:=aa.new (o:= .tup [.int (y.1:Int), .ref c]) nJ;have ji:=s2.trans s3;have N1:=aH.mono s2;refine⟨l,vs,_,U,U,ji _ _ hv,dk (by omega),_,_,_,vs++[.ref p],U,c5 (sm.trans ji) dY,ae,?_⟩;rw[dP (P:=λb=>b=l) U,show gW y st=(y.1,qV y)::st by unfold gW;rw[rW];rfl,u4];refine ke (bO (λ_ _ r=>qp.km _ _ _ _ (bV ji) r) hp) ⟨p,c,U,e9 N1 nJ,?_,?_⟩
   ·exact bV s3 _ _ (by rw[cR (P:=λb=>b=l) (aH.not hc)];exact jI)
   ·exact fr c hc
  |true=>
   refine aJ ?_;have h2:=hj rW;match st,cD,hp,hw,o5 with
   |a1::b1::q1,cD,hp,hw,o5=>
    rw[u4,u4]at hp;obtain⟨ws,va,rfl,hp,ra⟩:=ue hp;obtain⟨ws,vb,rfl,hp,rb⟩:=ue hp;refine⟨_,U, .inl ⟨U,_,ab.of hv⟩,l,_,_,U,U,hv,oZ _ _,?_⟩;rw[oe];refine⟨_,U, .inl ⟨U,_,ab.of ae⟩,l,_,_,U,U,ae,oZ _ _,?_⟩;rw[oe,jz];have eW:Wo (λb=>b=l) (upd H' l (.lst ws))=Wo (λb=>b=l) H':=dP U;have up:∀z x,qp (upd H l (.lst [])) (Wo (λb=>b=l) H') z x->rX (upd H' l (.lst ws)) z x:=λz x h=>by have h2:=h.wr;rw[<-eW]at h2;exact rX.mono _ _ _ _ (bB _ _) h2
    have rq:upd H' l (.lst ws) n=some (.tup [.int (y.1:Int),u']):=by rw[aD (bS nH dY)];exact sm _ _ nH
    have N2:Hid (λb=>b=l) (upd H' l (.lst ws)):=aH.upd;refine⟨_,U, .inl ⟨U,_,ab.of ae⟩,_,U,_,_,_,_,U,U,bz.of rq,bT,_,U,_,_,_,_,U,U,bz.of rq,bT,_,U,_,U,y.1,va,vb,a1,b1,U,up _ _ ra,up _ _ rb,o5 a1 (by simp),o5 b1 (by simp),by simp only[wsum]at hw;omega,λc H2 s2 hc jI=>⟨gm,λp nJ=>?_⟩⟩;have s3:=aa.new (o:= .tup [.int (y.1:Int), .ref c]) nJ;have ji:=s2.trans s3;refine⟨l,ws,_,U,U,ji _ _ ae,dk (by simp at gk;omega),_,_,_,ws++[.ref p],U,c5 ((c5 sm dY).trans ji) dY,ae,?_⟩;rw[dP (P:=λb=>b=l) U,show gW y (a1::b1::q1)=(y.1,oj y.1 a1 b1)::q1 by unfold gW;rw[rW];rfl,u4];refine ke (bO (λ_ _ r=>qp.km _ _ _ _ ?_ r) hp) ⟨p,c,U,e9 (N2.mono s2) nJ,bV s3 _ _ (by rw[cR (P:=λb=>b=l) (N2.not hc)];exact jI),?_⟩
    ·rw[<-eW];exact bV ji
    ·refine fr c ?_
     by_cases bD:c=l
     ·subst bD;rw[ae]at hc;cases hc
     ·rw[aD bD]at hc;exact hc
   |[a1],cD,hp,hw,o5|[],cD,hp,hw,o5=>simp at cD;omega
 ·rintro σ H' ⟨u,v,w,vs,rfl,sm,hv,hp⟩
  rw[hl,qN,kL,tp F hF]at hp;cases hp with
  |cons r rest=>
   cases rest;obtain⟨p,c,rfl,h1,h2,h3⟩:=r;refine⟨_,U,l,_,_,_,U,U,ab.of hv,bT,_,_,_,_,U,U,bz.of (bB _ _ _ _ h1),fO,q c H' sm ?_ (bB _ _ _ _ h2)⟩;exact s0.free h3
def dB(b:UInt8):PyData:= .int (b.toNat:Int)
def my(x:Node):PyData:= .tuple [.int (x.1:Int), .tuple (x.2.map dB)]
def nM(l:List Node):PyData:= .list (l.map my)
structure iz(d:PyData)(k:Nat):Prop where
 lay:d.canLay0=true
 dep:d.depth<=k
theorem Aj(i:Int):iz (.int i) 0:=⟨U,aM _⟩
theorem ju:∀{xs:List PyData} {k:Nat},(∀x∈xs,iz x k)->PyData.canLayAll0 xs=true/\ PyData.depthAll xs<=k
 |[],k,_=>⟨U,bj _⟩
 |x::r,k,h=>by
  obtain⟨h1,h2⟩:=ju (xs:=r) λy hy=>h y (by simp[hy]);obtain⟨h3,h4⟩:=h x (by simp);refine⟨?_,?_⟩
  ·show(x.canLay0&&PyData.canLayAll0 r)=true
   rw[h3,h1];rfl
  ·show max x.depth (PyData.depthAll r)<=k
   omega
theorem wU{xs:List PyData}{k:Nat}(h:∀x∈xs,iz x k):iz (.list xs) (k+1):=⟨(ju h).1,Nat.succ_le_succ (ju h).2⟩
theorem F4{xs:List PyData}{k:Nat}(h:∀x∈xs,iz x k):iz (.tuple xs) (k+1):=⟨(ju h).1,Nat.succ_le_succ (ju h).2⟩
theorem iz.up{d:PyData}{j k:Nat}(h:iz d j)(l:j<=k):iz d k:=⟨h.lay,cO h.dep l⟩
theorem iz.shaped{d:PyData}{k:Nat}(h:iz d k)(l:k<=64):SeqAt.shaped d=true:=by unfold SeqAt.shaped;rw[h.lay,decide_eq_true (cO h.dep l)];rfl
theorem N3(t:Text):∀x∈t.map dB,iz x 0:=λx hx=>by obtain⟨b,_,rfl⟩:=c9.mp hx;exact Aj _
theorem okNode(x:Node):iz (my x) 2:=F4 λy hy=>by
 simp at hy;rcases hy with rfl|rfl
 ·exact(Aj _).up (by decide)
 ·exact F4 (N3 _)
theorem qr(l:List Node):iz (nM l) 3:=wU λy hy=>by obtain⟨b,_,rfl⟩:=c9.mp hy;exact okNode _
theorem ux(t:Text):iz (.list (t.map dB)) 1:=wU (N3 t)
theorem mz(xs:List PyData):PyData.eqv (.list xs) (.list [])=xs.isEmpty:=by cases xs<;>rfl
theorem F5:∀(t u:List UInt8),PyData.eqvAll (t.map dB) (u.map dB)=decide (t=u)
 |[],[]|[],_::_|_::_,[]=>rfl
 |a::t,b::u=>by
  show(((a.toNat:Int)==(b.toNat:Int))&&PyData.eqvAll (t.map dB) (u.map dB))=_;rw[F5 t u];have e:((a.toNat:Int)==(b.toNat:Int))=decide (a=b):=by
   by_cases h:a=b
   ·subst h;simp
   ·rw[decide_eq_false h,beq_eq_false_iff_ne]
    intro c;exact h (UInt8.toNat_inj.mp (by omega))
  rw[e,iG];simp
theorem Zr(x y:Node):PyData.eqv (my x) (my y)=decide (x=y):=by
 obtain⟨k,a⟩:=x;obtain⟨m,b⟩:=y;show(((k:Int)==(m:Int))&&(PyData.eqvAll (a.map dB) (b.map dB)&&true))=_;rw[F5];have e:((k:Int)==(m:Int))=decide (k=m):=by
  by_cases h:k=m
  ·subst h;simp
  ·rw[decide_eq_false h,beq_eq_false_iff_ne];omega
 rw[e,iG];simp
theorem F6:∀(l m:List Node),PyData.eqvAll (l.map my) (m.map my)=decide (l=m)
 |[],[]|[],_::_|_::_,[]=>rfl
 |a::l,b::m=>by show(PyData.eqv (my a) (my b)&&PyData.eqvAll (l.map my) (m.map my))=_;rw[F6 l m,Zr,iG];simp
section
variable{K:PySem.W.Frag}{H:Hp}
theorem F7:∀(t:Text),oM K H (t.map bI) (t.map dB)
 |[]=> .nil
 |b::t=> .cons (.int _) (F7 t)
theorem uy{v:V}{t:Text}(h:bG H v t):Dp K H v (.list (t.map dB)):=by obtain⟨a,rfl,h⟩:=h;exact .lst (ab.of h) (F7 t)
theorem Zs{v:V}{x:Node}(h:bZ H v x):Dp K H v (my x):=by obtain⟨a,u,rfl,h,b,rfl,h2⟩:=h;exact .tup (bz.of h) (.cons (.int _) (.cons (.tup (bz.of h2) (F7 _)) .nil))
theorem Ak{α:Type}{R:V->α->Prop}{f:α->PyData}(k:∀v x,R v x->Dp K H v (f x)):∀{vs:List V} {l:List α},Paired R vs l->oM K H vs (l.map f)
 |_,_, .nil=> .nil
 |_,_, .cons r t=> .cons (k _ _ r) (Ak k t)
theorem qt{v:V}{l:List Node}(h:cT H v l):Dp K H v (nM l):=by obtain⟨a,vs,rfl,h,p⟩:=h;exact .lst (ab.of h) (Ak (λ_ _ r=>Zs r) p)
theorem mB{p:Addr}(h:H p=some (.lst [])):Dp K H (.ref p) (.list []):= .lst (ab.of h) .nil
theorem mC:SeqAt.shaped (.list [])=true:=(wU (xs:=[]) (k:=0) λx hx=>by simp at hx).shaped (by decide)
theorem isEmpty_map{α β:Type}(f:α->β)(l:List α):(l.map f).isEmpty=l.isEmpty:=by cases l<;>rfl
end
theorem Zt(b:UInt8):isWord b=(isSmall b||isDigit b):=rfl
def Zu:Sp:=λvs H Q _=>∃b:UInt8,vs=[bI b]/\ Q (.bl (isWord b)) H
theorem N4(T:Txt K mg A):Gd P w K mg base 2 A.Eg A.LZ ["byte"] Zu:=by
 refine T.XI.go (N:=["byte"]) ?_;rintro aC A' outer s H vs Q E hr nd ⟨b,rfl,q⟩;refine⟨_,(ag (aB (JX (aP hr (F0 T) T.FF (aj (pv 0))) (rA (aP hr (NT T) T.Nq (aj (pv 0))))))),?_⟩;refine⟨_,U,b,U,_,U,?_⟩;rw[Zt]at q;cases hs:isSmall b with
 |true=>rw[hs]at q;exact aJ q
 |false=>rw[hs]at q;exact aA ⟨_,U,b,U,q⟩
theorem N5{p:UInt8->Bool}:∀(l:Text) (j:Nat),(∀x∈l.take j,p x=true)->(∀x,l[j]? =some x->p x=false)->j<=l.length->l.takeWhile p=l.take j
 |[],j,_,_,h=>by simp at h;subst h;rfl
 |a::l,0,_,h,_=>by rw[x5,h a U];rfl
 |a::l,j+1,h1,h2,h3=>by rw[x5,h1 a (by simp),Bs];simp only[if_true];rw[N5 l j (λx hx=>h1 x (by rw[Bs];simp[hx])) (λx hx=>h2 x hx) (by simpa using h3)]
def Zv:Sp:=λvs H Q _=>∃(v:V) (t:Text) (at_:Nat),vs=[v, .int (at_:Int)]/\ bG H v t/\ at_<=t.length/\ Q (.int ((at_+((t.drop at_).takeWhile isWord).length:Nat):Int)) H
theorem Zw(T:Txt K mg A):Gd P w K mg base 3 A.Eh A.L0 ["text","at"] Zv:=by
 refine T.XJ.go (N:=["text","at","end"]) ?_;rintro aC A' outer s H vs Q E hr nd ⟨v,t,at_,rfl,⟨a,rfl,ha⟩,eD,q⟩;refine⟨_,(af (aN 2 nd (pv 1))
  (af (j3 PassesOwn.never (PW.pt (tU (aR iq (pv 2) (dw T.c6 (pv 0))) (tT (dC (aP hr (N4 T) T.Nz (aj (aT (pv 0) (pv 2)))))))) (ag (vR (i:=2) nd U (Or.inl U) ak zj)))
  (ag (aB (pv 2))))),?_⟩
 refine⟨_,U,λm σ' H'=>∃e:Nat,σ'=[some (.ref a),some (.int (at_:Int)),some (.int (e:Int))]/\ H'=H/\ m=t.length-e/\ at_<=e/\ e<=t.length/\ ∀x∈(t.drop at_).take (e-at_),isWord x=true,⟨_,at_,U,U,U,aM _,eD,by simp⟩,?_⟩;rintro m σ' H' ⟨e,rfl,rfl,rfl,h1,h2,h3⟩;have done:(∀x,(t.drop at_)[e-at_]? =some x->isWord x=false)->Q (.int (e:Int)) H':=λhx=>by rw[N5 (t.drop at_) (e-at_) h3 hx (by simp;omega),mX,iE,u5 (by omega),show at_+(e-at_)=e by omega]at q;exact q
 refine⟨_,U,_,U,a,_,U, .inl (ab.of ha),_,_,U,U,_,U,b9 (λh=>?_) (λh=>?_)⟩
 ·have aU:e<t.length:=by have:=of_decide_eq_true h;simp at this;omega
  have hg:t[e]? =some t[e]:=br aU;refine⟨_,U,_,U,_,_,_,_,U,U,ab.of ha,bH (j:=e) (by rw[ez,hg];rfl),t[e],U,_,U,?_⟩;cases hw:isWord t[e]with
  |true=>
   refine aJ ⟨λσ' H1=>∃e':Nat,e'=e+1/\ σ'=[some (.ref a),some (.int (at_:Int)),some (.int (e':Int))]/\ H1=H',?_,?_⟩
   ·rintro σ' H1 ⟨e',rfl,rfl,rfl⟩
    refine⟨_,?_,e+1,U,U,U,by omega,by omega,λx hx=>?_⟩
    ·omega
    ·rw[show e+1-at_=(e-at_)+1 by omega,By,nX,show at_+(e-at_)=e by omega,hg]at hx
     rcases cN.mp hx with hx|hx
     ·exact h3 x hx
     ·simp at hx;subst hx;exact hw
   ·exact⟨_,U,_,_,U,U,e+1,U,U,U⟩
  |false=>refine aA ⟨_,U,done λx hx=>?_⟩;rw[nX,show at_+(e-at_)=e by omega,hg]at hx;rw[<-ay hx];exact hw
 ·have oP:t.length<=e:=by
   have:¬((e:Int)<((t.map bI).length:Int)):=λc=>h (decide_eq_true c);simp at this;omega
  refine⟨_,U,done λx hx=>?_⟩;rw[nX,show at_+(e-at_)=e by omega,jQ oP]at hx;cases hx
def Zx:Sp:=λvs H Q _=>∃(v:V) (t:Text),vs=[v]/\ bG H v t/\ t≠ []/\ Q (.bl (PM.shortName t)) H
theorem Zy(T:Txt K mg A):Gd P w K mg base 2 A.Ei A.L1 ["stretch"] Zx:=by
 refine T.XM.go (N:=["stretch"]) ?_;rintro aC A' outer s H vs Q E hr nd ⟨v,t,rfl,⟨a,rfl,ha⟩,b8,q⟩;refine⟨_,(ag (aB (vN (aP hr (F0 T) T.FF (aj (aT (pv 0) ak))) (rA (lq j6 (dw T.c6 (pv 0)) (aW T.VQ)))))),?_⟩;cases t with
 |nil=>exact absurd U b8
 |cons c r=>
  refine⟨_,U,_,_,_,_,U,U,ab.of ha,bT,c,U,_,U,?_⟩;unfold PM.shortName at q;rw[BA,Option.any_some]at q;cases hs:isSmall c with
  |false=>rw[hs,n8]at q;exact aA q
  |true=>rw[hs,mV]at q;refine aJ ⟨_,U,a,_,U, .inl (ab.of ha),_,_,U,U,?_⟩;show Q (.bl (decide ((((c::r).map bI).length:Int)<=12))) H;rw[show decide ((((c::r).map bI).length:Int)<=12)=decide ((c::r).length<=12)from decide_eq_decide.mpr (by rw[aI];omega)];exact q
theorem Zz(c:UInt8):gj (bI c) [.int 126, .int 42, .int 124, .int 40, .int 41]=nj c:=by
 unfold gj nj;have e:∀n:UInt8,mf (.int (n.toNat:Int)) (bI c)=(c==n):=λn=>by
  show((n.toNat:Int)==(c.toNat:Int))=(c==n);by_cases h:c=n
  ·subst h;simp
  ·rw[beq_eq_false_iff_ne.mpr h,beq_eq_false_iff_ne]
   intro z;exact h (UInt8.toNat_inj.mp (by omega))
 have h1:=e 126;have h2:=e 42;have h3:=e 124;have h4:=e 40;have h5:=e 41;simp only[n9,yd,qO];rw[<-h1,<-h2,<-h3,<-h4,<-h5];rfl
def ZA:Sp:=λvs H Q _=>∃(P:Addr->Prop) (v:V) (t:Text) (at_:Nat) (c:UInt8) (r:Text),vs=[v, .int (at_:Int)]/\ bG H v t/\ t.drop at_=c::r/\ t.length<=4000/\ Hid P H/\ ∀v' H',aa H H'->bG (Wo P H') v' (yR c r)->Q v' H'
theorem ZC(T:Txt K mg A):Gd P w K mg base 4 A.Ef A.LY ["text","at"] ZA:=by
 refine T.XH.go (N:=["text","at","byte","stretch"]) ?_;rintro aC A' outer s H vs Q E hr nd ⟨P,v,t,at_,c,r,rfl,⟨a,rfl,ha⟩,hd,hlen,hP,q⟩;refine⟨_,(af (aN 2 nd (aT (pv 0) (pv 1)))
  (af (a9 (dC (aP hr (N4 T) T.Nz (aj (pv 2)))) (af (aN 3 nd (oH oI (pv 0) (je (pv 1)) (je (aP hr (Zw T) T.Wz (aY (pv 0) (pv 1))))))
  (ag (aB (kW (dC (aP hr (Zy T) T.WA (aj (pv 3)))) (pv 3) (aS bY))))) bt)
  (af (a9 (aR zr (pv 2) (gh (fM (aW T.z8) (fM (aW T.uh) (fM (aW T.wF) (aY (aW T.z7) (aW T.FC))))))) (ag (aB (aS (aj (pv 2))))) bt)
  (af (a9 (aR (mh hr.units) (oH oI (pv 0) (je (pv 1)) (je (b_ jd (pv 1) ak))) (aS (aY (aW T.rT) (aW T.Nl)))) (ag (aB (aS (aY (aW T.rT) (aW T.Nl))))) bt)
  (ag (aB (aS bY))))))),?_⟩
 have hc:t[at_]? =some c:=by
  have:(t.drop at_)[0]? =some c:=by rw[hd];rfl
  rw[nX]at this;exact this
 have eD:=dm hc;have mapc:(t.map bI)[at_]? =some (bI c):=by rw[ez,hc];rfl
 refine⟨_,U,_,U,_,_,_,_,U,U,ab.of ha,bH mapc,?_⟩;refine⟨_,U,c,U,_,U,?_⟩;unfold yR at q;cases hw:isWord c with
 |true=>
  rw[hw]at q;rw[if_pos U]at q;refine aJ ⟨_,U,_,U,_,U,_,U,_,U, .ref a,t,at_,U,⟨a,U,ha⟩,by omega,_,U,a,_,U,ab.of ha,λp hp=>?_⟩;have etw:(c::r).takeWhile isWord=c::r.takeWhile isWord:=by rw[x5,hw];rfl
  rw[hd,etw];have hl:at_+(c::r.takeWhile isWord).length<=t.length:=by
   have h1:(c::r.takeWhile isWord).length<=(c::r).length:=by simp;exact(List.takeWhile_sublist _).length_le
   have h2:=congrArg List.length hd;rw[iE]at h2;omega
  have ecut:fT (t.map bI) (some (at_:Int)) (some ((at_+(c::r.takeWhile isWord).length:Nat):Int))=(c::r.takeWhile isWord).map bI:=by rw[uf _ (by omega) (by rw[aI];exact hl),<-oa,<-pH,hd,show at_+(c::r.takeWhile isWord).length-at_=(c::r.takeWhile isWord).length by omega];congr 1;rw[<-etw];exact(List.prefix_iff_eq_take.mp (List.takeWhile_prefix isWord)).symm
  rw[ecut];have s1:=aa.new (o:= .lst ((c::r.takeWhile isWord).map bI)) hp;refine⟨_,U, .ref p,_,U,⟨p,U,ae⟩,by simp,_,U,?_⟩;cases hn:PM.shortName (c::r.takeWhile isWord)with
  |true=>rw[if_pos hn]at q;exact aJ ⟨_,U,q _ _ s1 ⟨p,U,e9 hP hp⟩⟩
  |false=>rw[if_neg (by rw[hn];simp)]at q;exact aA ⟨bj _,λz hz=>q _ _ (s1.trans (aa.new hz)) ⟨z,U,e9 (hP.mono s1) hz⟩⟩
 |false=>
  rw[hw]at q;rw[if_neg (by simp)]at q;refine aA ⟨_,U,(by show 5<=sizeLine;decide),λp hp=>?_⟩;have s1:=aa.new (o:= .tup [.int 126, .int 42, .int 124, .int 40, .int 41]) hp;have P1:=hP.mono s1;refine⟨p,_,U, .inr (bz.of ae),U,U,_,U,?_⟩;rw[show(if false=true then !gj (bI c) [.int 126, .int 42, .int 124, .int 40, .int 41]else gj (bI c) [.int 126, .int 42, .int 124, .int 40, .int 41])=nj c from Zz c];cases hf:nj c with
  |true=>rw[if_pos hf]at q;exact aJ ⟨_,U,cu,λz hz=>q _ _ (s1.trans (aa.new hz)) ⟨z,U,e9 P1 hz⟩⟩
  |false=>
   rw[if_neg (by rw[hf];simp)]at q;refine aA ⟨_,U,_,U,_,U,_,U,_,_,U,U,_,U,a,_,U,ab.of (s1 _ _ ha),λx hx=>⟨(by show 2<=sizeLine;decide),λy hy=>?_⟩⟩;have ecut:fT (t.map bI) (some (at_:Int)) (some ((at_:Int)+2))=((c::r).take 2).map bI:=by
    by_cases h2:at_+2<=t.length
    ·rw[show(at_:Int)+2=((at_+2:Nat):Int) by omega,uf _ (by omega) (by rw[aI];exact h2),<-oa,<-pH,hd,show at_+2-at_=2 by omega]
    ·unfold fT
     rw[show(at_:Int)+2=((at_+2:Nat):Int) by omega,HT.vV,HT.vV,aI,u5 (show at_<=t.length by omega),Nat.min_eq_right (show t.length<=at_+2 by omega),<-oa,<-pH,hd];congr 1;have h3:=congrArg List.length hd;rw[iE]at h3;rw[pF (by omega),pF (by omega)]
   have s2:=aa.new (o:= .lst (fT (t.map bI) (some (at_:Int)) (some ((at_:Int)+2)))) hx;have s3:=aa.new (o:= .lst [V.int 45,V.int 111]) hy;have P3:=(P1.mono s2).mono s3;have e2:([45,111]:Text).map bI=[V.int 45,V.int 111]:=rfl;have e3:PyData.eqv (.list (((c::r).take 2).map dB)) (.list (([45,111]:Text).map dB))=decide (c=45/\ r.head? =some 111):=by
    show PyData.eqvAll _ _=_;rw[F5];cases r with
    |nil|cons d q=>simp
   refine⟨_,_,uy (t:=(c::r).take 2) ⟨x,U,by rw[<-ecut];exact s3 _ _ ae⟩,uy (t:=[45,111]) ⟨y,U,ae⟩,(ux _).shaped (by decide),(ux _).shaped (by decide),_,U,?_⟩;rw[e3];refine b9 (λh=>?_) (λh=>?_)
   ·rw[if_pos (of_decide_eq_true h)]at q
    exact⟨(by show 2<=sizeLine;decide),λz hz=>q _ _ (((s1.trans s2).trans s3).trans (aa.new hz)) ⟨z,U,e9 P3 hz⟩⟩
   ·rw[if_neg λc=>h (decide_eq_true c)]at q
    exact⟨bj _,λz hz=>q _ _ (((s1.trans s2).trans s3).trans (aa.new hz)) ⟨z,U,e9 P3 hz⟩⟩
def wV(t:Text):List Text:=match toks t with
 |some ts=>ts.map dM
 |none=>[]
def ZD:Sp:=λvs H Q _=>∃(P:Addr->Prop) (v:V) (t:Text),vs=[v]/\ bG H v t/\ t.length<=4000/\ Hid P H/\ ∀v' H',aa H H'->cS bG (Wo P H') v' (wV t)->Q v' H'
theorem ZE(T:Txt K mg A):Gd P w K mg base 5 A.Ee A.LX ["text"] ZD:=by
 refine T.XG.go (N:=["text","tokens","at","token"]) ?_;rintro aC A' outer s H vs Q E hr nd ⟨P,v,t,rfl,⟨a,rfl,ha⟩,hlen,hP,q⟩;refine⟨_,(af (aN 1 nd (aS bY))
  (af (aN 2 nd ak)
  (af (j3 PassesOwn.never (aR iq (pv 2) (dw T.c6 (pv 0))) (ag (a9 (aR cj (aT (pv 0) (pv 2)) (aW T.wD)) (ag (vR (i:=2) nd U (Or.inl U) ak zj)) (af (aN 3 nd (aP hr (ZC T) T.Wy (aY (pv 0) (pv 2))))
  (af (a9 (aR (mh hr.units) (pv 3) (aS bY)) (ag (aB (aS bY))) bt)
  (af (bF (dD (pv 1) (pv 3)))
  (ag (vR (i:=2) nd U (Or.inl U) (dw T.c6 (pv 3)) zj))))))))
  (ag (aB (pv 1)))))),?_⟩
 refine⟨bj _,λl hl=>?_⟩;have s0:aa H (upd H l (.lst [])):=aa.new hl;refine⟨λm σ' H'=>∃(at_:Nat) (u:Option V) (ds:List Token) (vs:List V),σ'=[some (.ref a),some (.ref l),some (.int (at_:Int)),u]/\ m=t.length-at_/\ at_<=t.length/\ aa H H'/\ Hid (aL P l) H'/\ H' l=some (.lst vs)/\ vs.length<=at_/\ Paired (bG (Wo (aL P l) H')) vs (ds.map dM)/\ toks t=(toks (t.drop at_)).map λr=>ds++r,
  ⟨_,0,none,[],[],U,U,bj _,s0,(hP.mono s0).lh ae,ae,aM _, .nil,by rw[kL];cases toks t<;>rfl⟩,?_⟩
 rintro m σ' H' ⟨at_,u,ds,vs,rfl,rfl,eD,sm,aH,hv,gk,hp,ht⟩;have gM:=sm _ _ ha;refine⟨_,U,_,U,a,_,U, .inl (ab.of gM),_,_,U,U,_,U,b9 (λh=>?_) (λh=>?_)⟩
 ·have aU:at_<t.length:=by have:=of_decide_eq_true h;simp at this;omega
  have hg:t[at_]? =some t[at_]:=br aU;have hd:t.drop at_=t[at_]::t.drop (at_+1):=jP aU;generalize t[at_]=c at hg hd;rw[hd,BJ]at ht;refine⟨λσ2 H2=>∃(at2:Nat) (u:Option V) (ds:List Token) (vs:List V),at_<at2/\ σ2=[some (.ref a),some (.ref l),some (.int (at2:Int)),u]/\ at2<=t.length/\ aa H H2/\ Hid (aL P l) H2/\ H2 l=some (.lst vs)/\ vs.length<=at2/\ Paired (bG (Wo (aL P l) H2)) vs (ds.map dM)/\ toks t=(toks (t.drop at2)).map λr=>ds++r,?_,?_⟩
  ·rintro σ2 H2 ⟨at2,u,ds,vs,h1,h2,h3⟩
   exact⟨t.length-at2,by omega,at2,u,ds,vs,h2,U,h3⟩
  refine⟨_,U,_,U,_,_,_,_,U,U,ab.of gM,bH (j:=at_) (by rw[ez,hg];rfl),U,_,U,b9 (λh=>?_) (λh=>?_)⟩
  ·have hc:c=32:=NR (of_decide_eq_true h)
   rw[if_pos hc]at ht;exact⟨_,U,_,_,U,U,at_+1,u,ds,vs,by omega,U,by omega,sm,aH,hv,by omega,hp,ht⟩
  ·have hc:¬c=32:=λe=>h (decide_eq_true (by rw[e];rfl))
   rw[if_neg hc]at ht;refine⟨_,U,_,U,aL P l, .ref a,t,at_,c,_,U,⟨a,U,gM⟩,hd,hlen,aH,λv2 H2 s2 h2=>?_⟩;rw[RS]at h2;refine⟨_,U,bj _,λz hz=>?_⟩;have s3:=aa.new (o:= .lst []) hz;refine⟨_,_,uy (bG.mono _ _ _ _ (aa.trans (bB _ _) s3) h2),mB ae,(ux _).shaped (by decide),mC,_,U,?_⟩;rw[mz,isEmpty_map];cases ho:lI c (t.drop (at_+1))with
   |none=>rw[ho]at h2 ht;refine aJ ⟨bj _,λg hg=>q _ _ (((sm.trans s2).trans s3).trans (aa.new hg)) ⟨g,[],U,e9 ((hP.mono (((sm.trans s2).trans s3)))) hg,?_⟩⟩;unfold wV;rw[ht];exact .nil
   |some x=>
    rw[ho]at h2 ht;obtain⟨e1,e2,_⟩:=yS ho;simp only at h2⊢;have b8:(dM x.1).isEmpty=false:=by
     cases hk:dM x.1 with
     |nil=>exact absurd hk e2
     |cons _ _=>rfl
    rw[b8];have ji:=s2.trans s3;have h3:=bG.mono _ _ _ _ (bV (P:=aL P l) s3) h2;obtain⟨w,rfl,hw⟩:=h2;have gw:=congrArg List.length e1;rw[bL]at gw;have fh:=congrArg List.length hd;rw[iE,gw]at fh;refine aA ⟨_,U, .inl ⟨U,_,ab.of (ji _ _ hv)⟩,_,U,l,_,_,U,U,ji _ _ hv,dk (by omega),?_⟩;have wW:upd (upd H2 z (.lst [])) l (.lst (vs++[.ref w])) w=some (.lst ((dM x.1).map bI)):=by have j_:¬aL P l w:=(iT hw).1;rw[aD λc=>j_ (.inr c)];exact s3 _ _ (iT hw).2
    refine⟨_,U,_,U,w,_,U, .inl (ab.of wW),_,_,U,U,at_+(dM x.1).length,_,ds++[x.1],vs++[.ref w],?_,by rw[aI];rfl,by omega,c5 (sm.trans ji) hl,(aH.mono ji).upd,ae,?_,?_,?_⟩
    ·have:0<(dM x.1).length:=qQ.mpr e2
     omega
    ·have:0<(dM x.1).length:=qQ.mpr e2
     simp;omega
    ·rw[dP (.inr U),gD]
     exact qb (bO (λ_ _ r=>bG.mono _ _ _ _ (bV ji) r) hp) (qc h3)
    ·have e3:t.drop (at_+(dM x.1).length)=x.2:=by
      rw[<-sP,hd,e1,List.drop_left]
     rw[ht,e3];simp only[cY,u6];congr 1;funext r;simp
 ·have oP:t.length<=at_:=by
   have:¬((at_:Int)<((t.map bI).length:Int)):=λc=>h (decide_eq_true c);simp at this;omega
  rw[List.drop_of_length_le oP,BI]at ht;refine⟨_,U,q _ _ sm ⟨l,vs,U,?_,?_⟩⟩
  ·rw[cR (hP.not hl)];exact hv
  ·unfold wV
   rw[ht];simp only[lD,iD];exact bO (λ_ _ r=>bG.mono _ _ _ _ qg r) hp
def jJ(H:Hp)(v:V)(e:Pd):Prop:=∃a u,v= .ref a/\ H a=some (.tup [.int (dA e:Int),u])/\ cT H u (gK e)
theorem jJ.mono:eP jJ:=λ_ _ _ _ s ⟨a,u,e,h,n⟩=>⟨a,u,e,s _ _ h,cS.mono bZ.mono _ _ _ _ s n⟩
theorem cT.km:eP cT:=cS.mono bZ.mono
def kr(fv:V)(pl:Addr)(fl:Bool):List (Str×V):=[("formula",fv),("pending", .ref pl),("failed", .bl fl)]
def Md(P:Addr->Prop)(r pl:Addr):Addr->Prop:=λb=>P b\/b=r\/b=pl
def bx(r pl:Addr)(H H':Hp):Prop:=∀b o,H b=some o->b≠r->b≠pl->H' b=some o
section
variable{r pl:Addr}{H H1 H2:Hp}{P:Addr->Prop}
theorem bx.refl:bx r pl H H:=λ_ _ e _ _=>e
theorem bx.trans(a:bx r pl H H1)(b:bx r pl H1 H2):bx r pl H H2:=λc o e h1 h2=>b c o (a c o e h1 h2) h1 h2
theorem bx.same(a:bx r pl H H1)(s:aa H1 H2):bx r pl H H2:=λc o e h1 h2=>s _ _ (a c o e h1 h2)
theorem bx.of(s:aa H H1):bx r pl H H1:=λc o e h1 h2=>s _ _ e
theorem bx.ur{o:HO}(a:bx r pl H H1):bx r pl H (upd H1 r o):=λc q e h1 h2=>by rw[aD h1];exact a c q e h1 h2
theorem bx.up{o:HO}(a:bx r pl H H1):bx r pl H (upd H1 pl o):=λc q e h1 h2=>by rw[aD h2];exact a c q e h1 h2
theorem bx.wo(a:bx r pl H H1):aa (Wo (Md P r pl) H) (Wo (Md P r pl) H1):=qd λb o e h=>a b o e (λc=>h (.inr (.inl c))) (λc=>h (.inr (.inr c)))
theorem bx.aH(a:bx r pl H H1)(h:Hid P H)(hr:H1 r≠none)(bK:H1 pl≠none):Hid P H1:=λb hb e=>by
 by_cases h1:b=r
 ·subst h1;exact hr e
 ·by_cases h2:b=pl
  ·subst h2;exact bK e
  ·cases q:H b with
   |none=>exact h b hb q
   |some o=>rw[a b o q h1 h2]at e;cases e
end
structure cE(A:aE)(P:Addr->Prop)(H:Hp)(r pl:Addr)(s:MS)(fl:Bool):Prop where
 ex:∃dx fv vs,H r=some (.ins A.cq dx (kr fv pl fl))/\ H pl=some (.lst vs)/\ Paired (jJ (Wo (Md P r pl) H)) vs s.pend.reverse/\ cT (Wo (Md P r pl) H) fv (ie s.form)
 aH:Hid P H
theorem cE.mono{A:aE}{P:Addr->Prop}{H H':Hp}{r pl:Addr}{s:MS}{fl:Bool}(h:cE A P H r pl s fl)(m:aa H H'):cE A P H' r pl s fl:=by obtain⟨dx,fv,vs,h1,h2,h3,h4⟩:=h.ex;exact⟨⟨dx,fv,vs,m _ _ h1,m _ _ h2,bO (λ_ _ q=>jJ.mono _ _ _ _ (bV m) q) h3,cT.km _ _ _ _ (bV m) h4⟩,h.aH.mono m⟩
theorem uz{P:Addr->Prop}{H:Hp}{r pl:Addr}{o u:HO}(h:Hid P H)(hr:H r=some o)(hp:H pl=some u):Hid (Md P r pl) H:=λb hb e=>by
 rcases hb with hb|rfl|rfl
 ·exact h b hb e
 ·rw[hr]at e;cases e
 ·rw[hp]at e;cases e
def cI:List Pd->Nat
 |[]=>0
 |e::_=>dA e
def N6(e:Pd):PyData:= .tuple [.int (dA e:Int),nM (gK e)]
theorem N7(l:List Pd):iz (.list (l.map N6)) 5:=wU λy hy=>by
 obtain⟨e,_,rfl⟩:=c9.mp hy;refine F4 λz hz=>?_;simp at hz;rcases hz with rfl|rfl
 ·exact(Aj _).up (by decide)
 ·exact qr _
theorem N8{K:PySem.W.Frag}{H:Hp}{v:V}{e:Pd}(h:jJ H v e):Dp K H v (N6 e):=by obtain⟨a,u,rfl,h,h2⟩:=h;exact .tup (bz.of h) (.cons (.int _) (.cons (qt h2) .nil))
theorem rY{α:Type}(e:α)(p:List α):(e::p).reverse=p.reverse++[e]:=by simp
def ZF(A:aE):Sp:=λvs H Q _=>∃(P:Addr->Prop) (r dx:Addr),vs=[.ref r]/\ H r=some (.ins A.cq dx [])/\ Hid P H/\ ∀H' pl,bx r pl H H'->H pl=none->cE A P H' r pl ⟨none,[]⟩ false->Q .aO H'
theorem ZG(T:Txt K mg A):Gd P w K mg base 1 A.zU A.L3 ["self"] (ZF A):=by
 refine T.XN.go (N:=["self"]) ?_;rintro aC A' outer s H vs Q E hr nd ⟨P,r,dx,rfl,d7,hP,q⟩;refine⟨_,(af (cn (pv 0) (aS bY))
  (af (cn (pv 0) (aS bY))
  (ag (cn (pv 0) iP)))),?_⟩
 refine⟨bj _,λf hf=>⟨_,U,r,_,dx,_,U,aa.new hf _ _ d7,T.bW,T.kh,(by show 0<1000;decide),?_⟩⟩;refine⟨bj _,λpl bK=>⟨_,U,r,_,dx,_,U,aa.new bK _ _ ae,T.bW,T.nE,(by show 1<1000;decide),?_⟩⟩;refine⟨_,U,r,_,dx,_,U,ae,T.bW,T.qk,(by show 2<1000;decide),?_⟩;have nrf:r≠f:=bS d7 hf;have nrp:r≠pl:=λc=>by subst c;rw[ae]at bK;cases bK
 have nfp:f≠pl:=λc=>by subst c;rw[aD (Ne.symm nrf),ae]at bK;cases bK
 have F8:H pl=none:=by rw[aD (Ne.symm nrp)]at bK;exact(aa.new hf).free bK
 refine q _ pl ?_ F8 ?_
 ·exact((bx.of (aa.new hf)).ur.same (aa.new bK)).ur.ur
 ·have k:bx r pl H (upd (upd (upd (upd (upd H f (.lst [])) r (.ins A.cq dx (bA "formula" (.ref f) []))) pl (.lst [])) r (.ins A.cq dx (bA "pending" (.ref pl) (bA "formula" (.ref f) [])))) r (.ins A.cq dx (bA "failed" (.bl false) (bA "pending" (.ref pl) (bA "formula" (.ref f) []))))):=((bx.of (aa.new hf)).ur.same (aa.new bK)).ur.ur
  have hplF:∀o,upd (upd (upd (upd (upd H f (.lst [])) r (.ins A.cq dx (bA "formula" (.ref f) []))) pl (.lst [])) r (.ins A.cq dx (bA "pending" (.ref pl) (bA "formula" (.ref f) [])))) r o pl=some (.lst []):=λo=>by rw[aD (Ne.symm nrp),aD (Ne.symm nrp),ae]
  have ZH:∀o,upd (upd (upd (upd (upd H f (.lst [])) r (.ins A.cq dx (bA "formula" (.ref f) []))) pl (.lst [])) r (.ins A.cq dx (bA "pending" (.ref pl) (bA "formula" (.ref f) [])))) r o f=some (.lst []):=λo=>by rw[aD (Ne.symm nrf),aD (Ne.symm nrf),aD nfp,aD (Ne.symm nrf),ae]
  refine⟨⟨dx, .ref f,[],ae,hplF _, .nil,f,[],U,?_, .nil⟩,k.aH hP (by rw[ae];intro z;cases z) (by rw[hplF];intro z;cases z)⟩;rw[cR (by
   rintro(c|c|c)
   ·exact hP.not hf c
   ·exact nrf c.symm
   ·exact nfp c),ZH]
def ZI(A:aE):Sp:=λvs H Q _=>∃(P:Addr->Prop) (r pl:Addr) (s:MS) (fl:Bool),vs=[.ref r]/\ cE A P H r pl s fl/\ ∀H',aa H H'->Q (.int (cI s.pend:Int)) H'
theorem uA(T:Txt K mg A):Gd P w K mg base 1 A.Er A.L' ["self"] (ZI A):=by
 refine T.XW.go (N:=["self"]) ?_;rintro aC A' outer s H vs Q E hr nd ⟨P,r,pl,s,fl,rfl,hS,q⟩;refine⟨_,(af (a9 (aR (mh hr.units) (ao (pv 0)) (aS bY)) (ag (aB ak)) bt)
  (ag (aB (cW (aT (ao (pv 0)) (il ip ak)) ak)))),?_⟩
 obtain⟨dx,fv,vs,h1,h2,h3,h4⟩:=hS.ex;refine⟨_,U,_,_,_,_,_,U,h1,T.bW,T.nE,U,bj _,λz hz=>?_⟩;have s1:=aa.new (o:= .lst []) hz;have qu:=bO (λ_ _ q=>jJ.mono _ _ _ _ (aa.trans (bB (Md P r pl) H) s1) q) h3;refine⟨_,_, .lst (ab.of (s1 _ _ h2)) (Ak (λ_ _ r=>N8 r) qu),mB ae,(N7 _).shaped (by decide),mC,_,U,?_⟩;rw[mz,isEmpty_map];cases hp:s.pend with
 |nil=>rw[hp]at q;exact aJ (q _ s1)
 |cons e p=>
  rw[hp]at q qu;rw[rY]at qu⊢;obtain⟨ws,w,rfl,h5,a,u,rfl,h6,h7⟩:=ue qu;have b8:(p.reverse++[e]).isEmpty=false:=by cases p.reverse<;>rfl
  rw[b8];refine aA ⟨_,U,_,_,_,_,_,U,s1 _ _ h1,T.bW,T.nE,U,_,U,_,_,_,_,U,U,ab.of (s1 _ _ h2),Tz _ _,_,_,_,_,U,U,bz.of h6,bT,q _ s1⟩
def F9(A:aE):Sp:=λvs H Q _=>∃(P:Addr->Prop) (r pl:Addr) (s:MS) (fl:Bool) (e:Pd),vs=[.ref r, .int (dA e:Int)]/\ cE A P H r pl s fl/\ gK e=ie s.form/\ s.pend.length<=10000/\
 ∀H',bx r pl H H'->cE A P H' r pl ⟨none,e::s.pend⟩ (fl||decide (100<=s.pend.length))->Q .aO H'
theorem F_(T:Txt K mg A):Gd P w K mg base 1 A.Ep A.L_ ["self","sign"] (F9 A):=by
 refine T.XU.go (N:=["self","sign"]) ?_;rintro aC A' outer s H vs Q E hr nd ⟨P,r,pl,s,fl,e,rfl,hS,he,hlen,q⟩;refine⟨_,(af (bF (dD (ao (pv 0)) (gh (aY (pv 1) (ao (pv 0))))))
  (af (cn (pv 0) (aS bY))
  (ag (a9 (aR rJ (dw T.c6 (ao (pv 0))) (aW T.VR)) (ag (cn (pv 0) iP)) bt)))),?_⟩
 obtain⟨dx,fv,vs,h1,h2,h3,h4⟩:=hS.ex;have nrp:r≠pl:=ig h1 h2 (by intro z;cases z);have gk:=ck h3;rw[sZ]at gk;refine⟨_,U,_,_,_,_,_,U,h1,T.bW,T.nE,U, .inl ⟨U,_,ab.of h2⟩,_,U,_,U,_,_,_,_,_,U,h1,T.bW,T.kh,U,gm,λt ht=>⟨pl,_,_,U,U,aa.new ht _ _ h2,dk (by omega),?_⟩⟩;have s1:=aa.new (o:= .tup [.int (dA e:Int),fv]) ht;have hM:=uz hS.aH h1 h2;have htM:¬Md P r pl t:=hM.not ht;refine⟨bj _,λz hz=>⟨_,U,r,_,_,_,U,aa.new hz _ _ (by rw[aD nrp];exact s1 _ _ h1),T.bW,T.kh,(by show 3<1000;decide),?_⟩⟩;have s2:=aa.new (o:= .lst []) hz;have N9:z≠r:=λc=>by subst c;rw[aD nrp,s1 _ _ h1]at hz;cases hz
 have Ga:z≠pl:=λc=>by subst c;rw[ae]at hz;cases hz
 have hzP:¬P z:=λc=>hS.aH z c (by
  rw[aD Ga]at hz;exact s1.free hz)
 have k3:bx r pl H (upd (upd (upd (upd H t (.tup [.int (dA e:Int),fv])) pl (.lst (vs++[.ref t]))) z (.lst [])) r (.ins A.cq dx (kr (.ref z) pl fl))):=((bx.of s1).up.same s2).ur;have Gb:∀o,upd (upd (upd (upd H t (.tup [.int (dA e:Int),fv])) pl (.lst (vs++[.ref t]))) z (.lst [])) r o pl=some (.lst (vs++[.ref t])):=λo=>by rw[aD (Ne.symm nrp),aD (Ne.symm Ga),ae]
 have Al:∀o,upd (upd (upd (upd H t (.tup [.int (dA e:Int),fv])) pl (.lst (vs++[.ref t]))) z (.lst [])) r o z=some (.lst []):=λo=>by rw[aD N9,ae]
 have Am:∀o,upd (upd (upd (upd H t (.tup [.int (dA e:Int),fv])) pl (.lst (vs++[.ref t]))) z (.lst [])) r o t=some (.tup [.int (dA e:Int),fv]):=λo=>by
  have wy:t≠r:=λc=>htM (.inr (.inl c));have pK:t≠pl:=λc=>htM (.inr (.inr c));have qu:t≠z:=λc=>by subst c;rw[aD pK,ae]at hz;cases hz
  rw[aD wy,aD qu,aD pK,ae]
 have fin:∀(H':Hp) (Ge:Bool),H' r=some (.ins A.cq dx (kr (.ref z) pl Ge))->bx r pl H H'->H' pl=some (.lst (vs++[.ref t]))->H' z=some (.lst [])->H' t=some (.tup [.int (dA e:Int),fv])->cE A P H' r pl ⟨none,e::s.pend⟩ Ge:=by
  intro H' Ge a1 a2 a3 a4 a5;refine⟨⟨dx, .ref z,_,a1,a3,?_,z,[],U,?_, .nil⟩,a2.aH hS.aH (by rw[a1];intro c;cases c) (by rw[a3];intro c;cases c)⟩
  ·rw[rY]
   refine ke (bO (λ_ _ q=>jJ.mono _ _ _ _ a2.wo q) h3) ⟨t,fv,U,?_,?_⟩
   ·rw[cR htM];exact a5
   ·rw[he];exact cT.km _ _ _ _ a2.wo h4
  ·rw[cR (by
    rintro(c|c|c)
    ·exact hzP c
    ·exact N9 c
    ·exact Ga c)]
   exact a4
 refine⟨_,U,_,_,_,_,_,U,ae,T.bW,T.nE,U,pl,_,U, .inl (ab.of (Gb _)),_,_,U,U,_,U,b9 (λh=>?_) (λh=>?_)⟩
 ·have oP:100<=s.pend.length:=by have:=of_decide_eq_true h;simp at this;omega
  rw[decide_eq_true oP,Bool.or_true]at q;refine⟨_,U,r,_,_,_,U,ae,T.bW,T.qk,(by show 3<1000;decide),?_⟩;rw[jz];have k4:bx r pl H (upd (upd (upd (upd H t (.tup [.int (dA e:Int),fv])) pl (.lst (vs++[.ref t]))) z (.lst [])) r (.ins A.cq dx (kr (.ref z) pl true))):=((bx.of s1).up.same s2).ur;exact q _ k4 (fin _ _ ae k4 (Gb _) (Al _) (Am _))
 ·have aU:¬100<=s.pend.length:=by
   intro c;refine h (decide_eq_true ?_);simp;omega
  rw[decide_eq_false aU,qO]at q;exact q _ k3 (fin _ _ ae k3 (Gb _) (Al _) (Am _))
theorem cE.next{A:aE}{P:Addr->Prop}{H H2:Hp}{r pl dx:Addr}{fl:Bool}{fv v':V}{ws:List V}{p:List Pd}{f':Option Formula}(hP:Hid P H)(k:bx r pl H H2)(An:H2 r=some (.ins A.cq dx (kr fv pl fl)))(nJ:H2 pl=some (.lst ws))
  (ZJ:Paired (jJ (Wo (Md P r pl) H)) ws p.reverse) (hv:cT (Wo (Md P r pl) H2) v' (ie f')):
  cE A P (upd H2 r (.ins A.cq dx (kr v' pl fl))) r pl ⟨f',p⟩ fl/\ bx r pl H (upd H2 r (.ins A.cq dx (kr v' pl fl))):=by
 have nrp:r≠pl:=ig An nJ (by intro z;cases z);have k':bx r pl H (upd H2 r (.ins A.cq dx (kr v' pl fl))):=k.ur;have bK:upd H2 r (.ins A.cq dx (kr v' pl fl)) pl=some (.lst ws):=by rw[aD (Ne.symm nrp)];exact nJ
 refine⟨⟨⟨dx,v',ws,ae,bK,bO (λ_ _ q=>jJ.mono _ _ _ _ k'.wo q) ZJ,?_⟩,k'.aH hP (by rw[ae];intro z;cases z) (by rw[bK];intro z;cases z)⟩,k'⟩;rw[dP (P:=Md P r pl) (l:=r) (.inr (.inl U))];exact hv
theorem cE.popped{A:aE}{P:Addr->Prop}{H:Hp}{r pl:Addr}{fl:Bool}{f:Option Formula}{e:Pd}{p:List Pd}(h:cE A P H r pl ⟨f,e::p⟩ fl):
  ∃dx fv ws w,H r=some (.ins A.cq dx (kr fv pl fl))/\ H pl=some (.lst (ws++[w]))/\ Paired (jJ (Wo (Md P r pl) H)) ws p.reverse/\ jJ (Wo (Md P r pl) H) w e/\ cT (Wo (Md P r pl) H) fv (ie f)/\ Hid (Md P r pl) (upd H pl (.lst ws))/\
   upd H pl (.lst ws) r=some (.ins A.cq dx (kr fv pl fl))/\ Wo (Md P r pl) (upd H pl (.lst ws))=Wo (Md P r pl) H:=by
 obtain⟨dx,fv,vs,h1,h2,h3,h4⟩:=h.ex;have h3:Paired (jJ (Wo (Md P r pl) H)) vs (e::p).reverse:=h3;rw[rY]at h3;obtain⟨ws,w,rfl,h5,h6⟩:=ue h3;have nrp:r≠pl:=ig h1 h2 (by intro z;cases z);exact⟨dx,fv,ws,w,h1,h2,h5,h6,h4,(uz h.aH h1 h2).upd,by rw[aD nrp];exact h1,dP (.inr (.inr U))⟩
structure jK(F:Formula)(p:List Pd):Prop where
 mul:multiplicative F=true
 gy:jX p
 sz:(enc F).length+cV p<=10000
theorem wX:∀p:List Pd,p.length<=cV p
 |[]=>aM _
 |e::p=>by have:=wX p;simp only[cV,aX];omega
def ZK(A:aE):Sp:=λvs H Q _=>∃(P:Addr->Prop) (r pl:Addr) (F:Formula) (p:List Pd) (fl:Bool),vs=[.ref r]/\ cE A P H r pl ⟨some F,p⟩ fl/\ jK F p/\
 ∀H',bx r pl H H'->cE A P H' r pl ⟨some (eN F p).1,(eN F p).2⟩ fl->Q .aO H'
theorem N_(T:Txt K mg A):Gd P w K mg base 2 A.Es A.Ma ["self"] (ZK A):=by
 refine T.XX.go (N:=["self"]) ?_;rintro aC A' outer s H vs Q E hr nd ⟨P,r,pl,F,p,fl,rfl,hS,hC,q⟩;refine⟨_,(ag (j3 PassesOwn.never (aR cj (dO hr (uA T) T.bW T.uj (pv 0)) (aW T.z8)) (af (bF (oJ PySem.F.plainAttrs_list PySem.F.slot_list_pop PySem.F.type_list_pop oK (ao (pv 0))))
  (ag (cn (pv 0) (aP hr (wR T) T.wJ (aj (ao (pv 0))))))))),?_⟩
 obtain⟨W,hW⟩:∃W:Nat->L2.St->Hp->Prop,W=λm σ' H'=>∃G g,σ'=[some (.ref r)]/\ m=g.length/\ bx r pl H H'/\ cE A P H' r pl ⟨some G,g⟩ fl/\ jK G g/\ eN G g=eN F p:=⟨_,U⟩
 refine⟨W,⟨_,by rw[hW];exact⟨F,p,U,U,bx.refl,hS,hC,U⟩⟩,λm σ' H' w=>?_⟩;rw[hW]at w;obtain⟨G,g,rfl,rfl,k,hG,cG,eG⟩:=w;obtain⟨dx,fv,vs,h1,_⟩:=hG.ex;refine⟨_,U,r,dx,_,U,h1,U,P,r,pl,_,fl,U,hG,λH1 s1=>⟨U,_,U,b9 (λh=>?_) (λh=>?_)⟩⟩
 ·have et:cI g=126:=by
   have:(cI g:Int)=126:=oY (of_decide_eq_true h);omega
  match g,et with
  | .gp::g,_=>refine⟨λσ' H'=>∃m',m'<(Pd.gp::g).length/\ W m' σ' H',λ_ _ h=>h,?_⟩;obtain⟨dx,fv,ws,w,a1,a2,a3,a4,a5,a6,a7,a8⟩:=(hG.mono s1).popped;refine⟨_,U,_,_,_,_,_,U,a1,T.bW,T.nE,U, .inl ⟨U,_,ab.of a2⟩,pl,_,_,U,U,a2,oZ _ _,?_⟩;rw[oe];have hsz:=cG.sz;simp only[cV,gK,kI]at hsz;refine⟨_,U,_,_,_,_,_,U,a7,T.bW,T.kh,U,Md P r pl,fv,enc G,U,by rw[a8];exact a5,jt G cG.mul,by omega,a6,λv' H2 s2 hv=>⟨_,U,r,_,_,_,U,s2 _ _ a7,T.bW,T.kh,(by show 3<1000;decide),?_⟩⟩;have nx:=cE.next (A:=A) (f':=some (dual G)) (hG.mono s1).aH ((bx.refl (H:=H1)).up.same s2) (s2 _ _ a7) (s2 _ _ ae) a3 (v':=v') (by show cT _ _ (enc (dual G));rw[jS];exact hv);refine⟨g.length,by simp,?_⟩;rw[hW];refine⟨dual G,g,U,U,(k.same s1).trans nx.2,nx.1,⟨by rw[jT];exact cG.mul,λx hx=>cG.gy x (by simp[hx]),?_⟩,eG⟩;rw[jS,aI];omega
  | .gF::g,et=>exact absurd et (by simp[cI,dA])
  | .cf b B::g,et=>exact absurd et (by cases b<;>simp[cI,dA])
  | .arr B::g,et|[],et=>exact absurd et (by simp[cI,dA])
 ·have et:¬cI g=126:=λc=>h (decide_eq_true (by rw[c];rfl))
  have e1:eN G g=(G,g):=HJ G g (by
   cases g with
   |nil=>rfl
   |cons e g=>cases e<;>first|rfl|exact absurd U et)
  rw[<-eG,e1]at q;exact q _ (k.same s1) (hG.mono s1)
theorem N'(n:Nat):gj (.int (n:Int)) [.int 42, .int 124]=(n==42||n==124):=by
 unfold gj;simp only[n9,yd,qO];have e:∀m:Nat,mf (.int (m:Int)) (.int (n:Int))=(n==m):=λm=>by
  show((m:Int)==(n:Int))=(n==m);by_cases h:n=m
  ·subst h;simp
  ·rw[beq_eq_false_iff_ne.mpr h,beq_eq_false_iff_ne];omega
 have h1:=e 42;have h2:=e 124;rw[<-h1,<-h2];rfl
def ZL(A:aE):Sp:=λvs H Q _=>∃(P:Addr->Prop) (r pl:Addr) (F:Formula) (p:List Pd) (fl:Bool),vs=[.ref r]/\ cE A P H r pl ⟨some F,p⟩ fl/\ jK F p/\
 ∀H',bx r pl H H'->cE A P H' r pl ⟨some (de F p).1,(de F p).2⟩ fl->Q .aO H'
theorem Oa(T:Txt K mg A):Gd P w K mg base 2 A.Et A.Mb ["self"] (ZL A):=by
 refine T.XY.go (N:=["self","before","kind"]) ?_;rintro aC A' outer s H vs Q E hr nd ⟨P,r,pl,F,p,fl,rfl,hS,hC,q⟩;refine⟨_,(ag (j3 PassesOwn.never (aR zr (dO hr (uA T) T.bW T.uj (pv 0)) (gh (aY (aW T.uh) (aW T.wF)))) (af (aN 1 nd (oJ PySem.F.plainAttrs_list PySem.F.slot_list_pop PySem.F.type_list_pop oK (ao (pv 0))))
  (af (aN 2 nd (kW (aR cj (cW (pv 1) ak) (aW T.uh)) (aW T.wG) (aW T.z9)))
  (ag (cn (pv 0) (aP hr (NW T) T.Nr (fM (pv 2) (aY (cW (pv 1) ak) (ao (pv 0))))))))))),?_⟩
 obtain⟨W,hW⟩:∃W:Nat->L2.St->Hp->Prop,W=λm σ' H'=>∃G g u v,σ'=[some (.ref r),u,v]/\ m=g.length/\ bx r pl H H'/\ cE A P H' r pl ⟨some G,g⟩ fl/\ jK G g/\ de G g=de F p:=⟨_,U⟩
 refine⟨W,⟨_,by rw[hW];exact⟨F,p,none,none,U,U,bx.refl,hS,hC,U⟩⟩,λm σ' H' w=>?_⟩;rw[hW]at w;obtain⟨G,g,u,v,rfl,rfl,k,hG,cG,eG⟩:=w;obtain⟨dx,fv,vs,h1,_⟩:=hG.ex;refine⟨_,U,r,dx,_,U,h1,U,P,r,pl,_,fl,U,hG,λH0 s0=>⟨gm,λz hz=>⟨z,_,U, .inr (bz.of ae),U,U,_,U,?_⟩⟩⟩;have s1:aa H' (upd H0 z (.tup [.int 42, .int 124])):=s0.trans (aa.new hz);generalize upd H0 z (.tup [.int 42, .int 124])=H1 at s1⊢;rw[show(if false=true then !gj (.int (cI g:Int)) [.int 42, .int 124]else gj (.int (cI g:Int)) [.int 42, .int 124])=(cI g==42||cI g==124)from N' _];refine b9 (λh=>?_) (λh=>?_)
 ·have et:cI g=42\/cI g=124:=by simpa using h
  match g,et with
  | .cf b B::g,_=>
   refine⟨λσ' H'=>∃m',m'<(Pd.cf b B::g).length/\ W m' σ' H',λ_ _ h=>h,?_⟩;obtain⟨dx,fv,ws,w,a1,a2,a3,a4,a5,a6,a7,a8⟩:=(hG.mono s1).popped;have hB:multiplicative B=true:=cG.gy (.cf b B) (by simp);refine⟨_,U,_,_,_,_,_,U,a1,T.bW,T.nE,U, .inl ⟨U,_,ab.of a2⟩,pl,_,_,U,U,a2,oZ _ _,?_⟩;rw[oe];rw[<-a8]at a4;obtain⟨c,u',rfl,h6,h7⟩:=a4;have Ao:=bB _ _ _ _ h6;have hsz:=cG.sz;simp only[cV,gK]at hsz;have go:∀kk:Nat,kk=(if b=true then 3 else 2)->(fA (Kh K (aZ 0) (iR NV [] E0 (d_ (aZ 2) (d_ (cw (vZ K) (aZ 1) (tC (.int 1))) (d_ (ir K (aZ 0) "formula") eI)))) "formula") iQ) {nx:=λσ' H'=>∃m',m'<(Pd.cf b B::g).length/\ W m' σ' H',rt:=Q,bk:=λ_ H'=>Q .aO H',ct:=λσ' H'=>∃m',m'<(Pd.cf b B::g).length/\ W m' σ' H'} [some (.ref r),some (.ref c),some (.int (kk:Int))] (upd H1 pl (.lst ws)):=by intro kk o5;refine⟨_,U,_,U,_,_,_,_,U,U,bz.of Ao,fO,_,U,_,_,_,_,_,U,a7,T.bW,T.kh,U,Md P r pl,kk,u',fv,enc B,enc G,U,h7,by rw[a8];exact a5,by omega,a6,λv' H2 s2 hv=>⟨_,U,r,_,_,_,U,s2 _ _ a7,T.bW,T.kh,(by show 3<1000;decide),?_⟩⟩;have nx:=cE.next (A:=A) (f':=some (kN b B G)) (hG.mono s1).aH ((bx.refl (H:=H1)).up.same s2) (s2 _ _ a7) (s2 _ _ ae) a3 (v':=v') (by show cT _ _ (enc (kN b B G));rw[yT,<-o5];exact hv);refine⟨g.length,by simp,?_⟩;rw[hW];refine⟨kN b B G,g,_,_,U,U,(k.same s1).trans nx.2,nx.1,⟨Jv hB cG.mul,λx hx=>cG.gy x (by simp[hx]),?_⟩,eG⟩;rw[yT,aX,bL];omega
   refine⟨_,U,_,_,_,_,U,U,bz.of Ao,bT,U,_,U,b9 (λh=>?_) (λh=>?_)⟩
   ·have e:dA (.cf b B)=42:=by have:=oY (of_decide_eq_true h);omega
    exact go 2 (by cases b;rfl;exact absurd e (by simp[dA]))
   ·have e:¬dA (.cf b B)=42:=λc=>h (decide_eq_true (by rw[c];rfl))
    exact go 3 (by cases b;exact absurd U e;rfl)
  | .gp::g,et| .gF::g,et| .arr B::g,et|[],et=>exact absurd et (by simp[cI,dA])
 ·have et:¬(cI g=42\/cI g=124):=λc=>h (by simpa using c)
  have e1:de G g=(G,g):=HK G g (by
   cases g with
   |nil=>rfl
   |cons e g=>cases e with
    |cf b B=>cases b;exact absurd (.inl U) et;exact absurd (.inr U) et
    |_=>rfl)
  rw[<-eG,e1]at q;exact q _ (k.same s1) (hG.mono s1)
theorem Ob{F:Formula}{p:List Pd}(c:jK F p):jK (de F p).1 (de F p).2:=by have h:=yV p F c.mul c.gy;exact⟨h.1,h.2.1,cO h.2.2 c.sz⟩
theorem ZM{F:Formula}{p:List Pd}(c:jK F p):jK (gq F p).1 (gq F p).2:=by have h:=Ct p F c.mul c.gy;exact⟨h.1,h.2.1,cO h.2.2 c.sz⟩
theorem ZN(G:Formula)(g:List Pd)(h:¬cI g=45):jR G g=(G,g):=by
 cases g with
 |nil=>rfl
 |cons e g=>cases e<;>first|rfl|exact absurd U h
def ZO(A:aE):Sp:=λvs H Q _=>∃(P:Addr->Prop) (r pl:Addr) (F:Formula) (p:List Pd) (fl:Bool),vs=[.ref r]/\ cE A P H r pl ⟨some F,p⟩ fl/\ jK F p/\
 ∀H',bx r pl H H'->cE A P H' r pl ⟨some (gq F p).1,(gq F p).2⟩ fl->Q .aO H'
theorem Oc(T:Txt K mg A):Gd P w K mg base 3 A.Eu A.Mc ["self"] (ZO A):=by
 refine T.XZ.go (N:=["self","before"]) ?_;rintro aC A' outer s H vs Q E hr nd ⟨P,r,pl,F,p,fl,rfl,hS,hC,q⟩;refine⟨_,(af (bF (dO hr (Oa T) T.bW T.NB (pv 0)))
  (ag (j3 PassesOwn.never (aR cj (dO hr (uA T) T.bW T.uj (pv 0)) (aW T.rT)) (af (aN 1 nd (oJ PySem.F.plainAttrs_list PySem.F.slot_list_pop PySem.F.type_list_pop oK (ao (pv 0))))
  (ag (cn (pv 0) (aP hr (NW T) T.Nr (fM (aW T.z9) (aY (aP hr (wR T) T.wJ (aj (cW (pv 1) ak))) (ao (pv 0))))))))))),?_⟩
 obtain⟨wY,ZP,wZ,Gf,_⟩:=hS.ex;refine⟨_,U,r,wY,_,U,Gf,U,P,r,pl,F,p,fl,U,hS,hC,λH1 k1 eR=>?_⟩;have nN:=Ob hC;have eF:gq F p=jR (de F p).1 (de F p).2:=rfl;rw[eF]at q;generalize (de F p).1=F1 at eR nN q;generalize (de F p).2=p1 at eR nN q;obtain⟨W,hW⟩:∃W:Nat->L2.St->Hp->Prop,W=λm σ' H'=>∃G g u,σ'=[some (.ref r),u]/\ m=g.length/\ bx r pl H H'/\ cE A P H' r pl ⟨some G,g⟩ fl/\ jK G g/\ jR G g=jR F1 p1:=⟨_,U⟩
 refine⟨W,⟨_,by rw[hW];exact⟨F1,p1,none,U,U,k1,eR,nN,U⟩⟩,λm σ' H' w=>?_⟩;rw[hW]at w;obtain⟨G,g,u,rfl,rfl,k,hG,cG,eG⟩:=w;obtain⟨dx,fv,vs,h1,_⟩:=hG.ex;refine⟨_,U,r,dx,_,U,h1,U,P,r,pl,_,fl,U,hG,λH1 s1=>⟨U,_,U,b9 (λh=>?_) (λh=>?_)⟩⟩
 ·have et:cI g=45:=by
   have:(cI g:Int)=45:=oY (of_decide_eq_true h);omega
  match g,et with
  | .arr B::g,_=>refine⟨λσ' H'=>∃m',m'<(Pd.arr B::g).length/\ W m' σ' H',λ_ _ h=>h,?_⟩;obtain⟨dx,fv,ws,w,a1,a2,a3,a4,a5,a6,a7,a8⟩:=(hG.mono s1).popped;have hB:multiplicative B=true:=cG.gy (.arr B) (by simp);refine⟨_,U,_,_,_,_,_,U,a1,T.bW,T.nE,U, .inl ⟨U,_,ab.of a2⟩,pl,_,_,U,U,a2,oZ _ _,?_⟩;rw[oe];rw[<-a8]at a4 a5;obtain⟨c,u',rfl,h6,h7⟩:=a4;have Ao:=bB _ _ _ _ h6;have hsz:=cG.sz;simp only[cV,gK]at hsz;refine⟨_,U,_,_,_,_,U,U,bz.of Ao,fO,Md P r pl,u',enc B,U,h7,jt B hB,by omega,a6,λv1 H2 s2 jj=>?_⟩;refine⟨_,U,_,_,_,_,_,U,s2 _ _ a7,T.bW,T.kh,U,Md P r pl,3,v1,fv,_,enc G,U,jj,cT.km _ _ _ _ (bV s2) a5,by rw[aI];omega,a6.mono s2,λv' H3 s3 hv=>⟨_,U,r,_,_,_,U,s3 _ _ (s2 _ _ a7),T.bW,T.kh,(by show 3<1000;decide),?_⟩⟩;have nx:=cE.next (A:=A) (f':=some (.par (dual B) G)) (hG.mono s1).aH (((bx.refl (H:=H1)).up.same s2).same s3) (s3 _ _ (s2 _ _ a7)) (s3 _ _ (s2 _ _ ae)) a3 (v':=v') (by show cT _ _ (enc (.par (dual B) G));rw[yU,jS];exact hv);refine⟨g.length,by simp,?_⟩;rw[hW];refine⟨.par (dual B) G,g,_,U,U,(k.same s1).trans nx.2,nx.1,⟨by simp[multiplicative,jT,hB,cG.mul],λx hx=>cG.gy x (by simp[hx]),?_⟩,eG⟩;rw[yU,aX,bL,jS,aI];omega
  | .gF::g,et=>exact absurd et (by simp[cI,dA])
  | .cf b B::g,et=>exact absurd et (by cases b<;>simp[cI,dA])
  | .gp::g,et|[],et=>exact absurd et (by simp[cI,dA])
 ·have et:¬cI g=45:=λc=>h (decide_eq_true (by rw[c];rfl))
  rw[<-eG,ZN G g et]at q;exact q _ (k.same s1) (hG.mono s1)
def uB(A:aE)(P:Addr->Prop)(H:Hp)(r pl:Addr):Option MS->Prop
 |some s=>cE A P H r pl s false
 |none=>∃s,cE A P H r pl s true
theorem cE.fail{A:aE}{P:Addr->Prop}{H:Hp}{r pl:Addr}{s:MS}{fl:Bool}(h:cE A P H r pl s fl):∃dx fs,H r=some (.ins A.cq dx fs)/\ fs.length=3/\ cE A P (upd H r (.ins A.cq dx (bA "failed" (.bl true) fs))) r pl s true/\ bx r pl H (upd H r (.ins A.cq dx (bA "failed" (.bl true) fs))):=by
 obtain⟨dx,fv,vs,h1,h2,h3,h4⟩:=h.ex;have nrp:r≠pl:=ig h1 h2 (by intro z;cases z);have k:bx r pl H (upd H r (.ins A.cq dx (kr fv pl true))):=bx.refl.ur;have bK:upd H r (.ins A.cq dx (kr fv pl true)) pl=some (.lst vs):=by rw[aD (Ne.symm nrp)];exact h2
 refine⟨dx,_,h1,U,⟨⟨dx,fv,vs,ae,bK,bO (λ_ _ q=>jJ.mono _ _ _ _ k.wo q) h3,cT.km _ _ _ _ k.wo h4⟩,k.aH h.aH (by rw[ae];intro z;cases z) (by rw[bK];intro z;cases z)⟩,k⟩
def ZQ(A:aE):Sp:=λvs H Q _=>∃(P:Addr->Prop) (r pl:Addr) (F:Formula) (p:List Pd),vs=[.ref r]/\ cE A P H r pl ⟨some F,p⟩ false/\ jK F p/\
 ∀H',bx r pl H H'->uB A P H' r pl (takeRight F p)->Q .aO H'
theorem ZR(T:Txt K mg A):Gd P w K mg base 4 A.Eo A.L9 ["self"] (ZQ A):=by
 refine T.XT.go (N:=["self"]) ?_;rintro aC A' outer s H vs Q E hr nd ⟨P,r,pl,F,p,rfl,hS,hC,q⟩;refine⟨_,(af (bF (dO hr (Oc T) T.bW T.ND (pv 0)))
  (ag (a9 (aR cj (dO hr (uA T) T.bW T.uj (pv 0)) (aW T.z7)) (af (bF (oJ PySem.F.plainAttrs_list PySem.F.slot_list_pop PySem.F.type_list_pop oK (ao (pv 0))))
  (ag (bF (dO hr (N_ T) T.bW T.NA (pv 0))))) (ag (cn (pv 0) iP))))),?_⟩
 obtain⟨wY,ZP,wZ,Gf,_⟩:=hS.ex;refine⟨_,U,r,wY,_,U,Gf,U,P,r,pl,F,p,false,U,hS,hC,λH1 k1 eR=>?_⟩;have nN:=ZM hC;unfold takeRight at q;generalize gq F p=z at eR nN q;obtain⟨F1,p1⟩:=z;obtain⟨dx,fv,vs,h1,_⟩:=eR.ex;refine⟨_,U,r,dx,_,U,h1,U,P,r,pl,_,false,U,eR,λH2 s2=>⟨U,_,U,b9 (λh=>?_) (λh=>?_)⟩⟩
 ·have et:cI p1=40:=by
   have:(cI p1:Int)=40:=oY (of_decide_eq_true h);omega
  match p1,et with
  | .gF::g,_=>
   obtain⟨dx,fv,ws,w,a1,a2,a3,a4,a5,a6,a7,a8⟩:=(eR.mono s2).popped;refine⟨_,U,_,_,_,_,_,U,a1,T.bW,T.nE,U, .inl ⟨U,_,ab.of a2⟩,pl,_,_,U,U,a2,oZ _ _,?_⟩;rw[oe];have kk:bx r pl H2 (upd H2 pl (.lst ws)):=bx.refl.up;have hsz:=nN.sz;simp only[cV,gK,kI]at hsz;have hG:cE A P (upd H2 pl (.lst ws)) r pl ⟨some F1,g⟩ false:=⟨⟨dx,fv,ws,a7,ae,by rw[a8];exact a3,by rw[a8];exact a5⟩,(eR.mono s2).aH.upd⟩
   refine⟨_,U,r,dx,_,U,a7,U,P,r,pl,F1,g,false,U,hG,⟨nN.mul,λx hx=>nN.gy x (by simp[hx]),by omega⟩,λH3 k3 ZS=>?_⟩;exact q _ (((k1.same s2).trans kk).trans k3) ZS
  | .gp::g,et=>exact absurd et (by simp[cI,dA])
  | .cf b B::g,et=>exact absurd et (by cases b<;>simp[cI,dA])
  | .arr B::g,et|[],et=>exact absurd et (by simp[cI,dA])
 ·have et:¬cI p1=40:=λc=>h (decide_eq_true (by rw[c];rfl))
  obtain⟨rO,fs,f1,f2,f3,f4⟩:=(eR.mono s2).fail;refine⟨_,U,r,_,_,_,U,f1,T.bW,T.qk,(by rw[f2];decide),?_⟩;refine q _ ((k1.same s2).trans f4) ?_;cases p1 with
  |nil=>exact⟨_,f3⟩
  |cons e g=>cases e<;>first|exact absurd U et|exact⟨_,f3⟩
def Od(A:aE):Sp:=λvs H Q _=>∃(P:Addr->Prop) (r pl:Addr) (F:Formula) (p:List Pd) (b:Bool),vs=[.ref r, .int (dA (.cf b F):Int)]/\ cE A P H r pl ⟨some F,p⟩ false/\ jK F p/\
 ∀H',bx r pl H H'->uB A P H' r pl (i5 b F p)->Q .aO H'
theorem ZT(T:Txt K mg A):Gd P w K mg base 2 A.Em A.L8 ["self","sign"] (Od A):=by
 refine T.XS.go (N:=["self","sign"]) ?_;rintro aC A' outer s H vs Q E hr nd ⟨P,r,pl,F,p,b,rfl,hS,hC,q⟩;refine⟨_,(af (a9 (PW.pt (tU (aR zr (dO hr (uA T) T.bW T.uj (pv 0)) (gh (aY (aW T.uh) (aW T.wF)))) (tT (aR t5 (dO hr (uA T) T.bW T.uj (pv 0)) (pv 1))))) (ag (cn (pv 0) iP)) bt)
  (ag (bF (bN hr (F_ T) T.bW T.FH (pv 0) (aj (pv 1)))))),?_⟩
 have bK:=wX p;have hsz:=hC.sz;have last:∀(H1:Hp) (fl:Bool),bx r pl H H1->cE A P H1 r pl ⟨some F,p⟩ fl->(fl=false->i5 b F p=push (.cf b F) p)->(fl=true->i5 b F p=none)->
   (fA (y_ (oF A.cq "begin" (F9 A) [] E0 (aZ 0) (d_ (aZ 1) eI))) iQ) {nx:=λ_ H'=>Q .aO H',rt:=Q} [some (.ref r),some (.int (dA (.cf b F):Int))] H1:=by
  intro H1 fl k1 eR h1 h2;obtain⟨dx,fv,vs,g1,_⟩:=eR.ex;refine⟨_,U,r,dx,_,U,g1,U,_,U,P,r,pl,_,fl, .cf b F,U,eR,U,by show p.length<=10000;omega,λH2 k2 eJ=>q _ (k1.trans k2) ?_⟩;cases fl with
  |true=>rw[h2 U];exact⟨_,by rw[Bool.true_or]at eJ;exact eJ⟩
  |false=>
   rw[h1 U];rw[uZ]at eJ;have eJ:cE A P H2 r pl ⟨none, .cf b F::p⟩ (decide (100<=p.length)):=eJ;unfold push;by_cases hl:p.length<100
   ·rw[if_pos hl]
    rw[decide_eq_false (by omega)]at eJ;exact eJ
   ·rw[if_neg hl]
    rw[decide_eq_true (by omega)]at eJ;exact⟨_,eJ⟩
 obtain⟨dx,fv,vs,h1,_⟩:=hS.ex;refine⟨_,U,r,dx,_,U,h1,U,P,r,pl,_,false,U,hS,λH0 s0=>⟨gm,λz hz=>⟨z,_,U, .inr (bz.of ae),U,U,_,U,?_⟩⟩⟩;have s1:aa H (upd H0 z (.tup [.int 42, .int 124])):=s0.trans (aa.new hz);generalize upd H0 z (.tup [.int 42, .int 124])=H1 at s1⊢;rw[show(if false=true then !gj (.int (cI p:Int)) [.int 42, .int 124]else gj (.int (cI p:Int)) [.int 42, .int 124])=(cI p==42||cI p==124)from N' _];refine b9 (λh=>?_) (λh=>?_)
 ·have et:cI p=42\/cI p=124:=by simpa using h
  refine⟨_,U,r,dx,_,U,s1 _ _ h1,U,P,r,pl,_,false,U,hS.mono s1,λH2 s2=>⟨_,U,U,_,U,b9 (λh'=>?_) (λh'=>?_)⟩⟩
  ·have en:¬cI p=dA (.cf b F):=by rw[jH]at h';simpa using h'
   obtain⟨rO,fs,f1,f2,f3,f4⟩:=(hS.mono (s1.trans s2)).fail;refine⟨_,U,r,_,_,_,U,f1,T.bW,T.qk,(by rw[f2];decide),?_⟩;refine last _ true (((bx.of s1).same s2).trans f4) f3 (λc=>by cases c) λ_=>?_;unfold i5;match p,et,en with
   | .cf c B::g,_,en=>show(if c=b then _ else none)=none;rw[if_neg λe=>en (by rw[e];rfl)]
   | .gp::g,et,_| .gF::g,et,_| .arr B::g,et,_|[],et,_=>exact absurd et (by simp[cI,dA])
  ·have en:cI p=dA (.cf b F):=by rw[jH]at h';simpa using h'
   refine last _ false ((bx.of s1).same s2) (hS.mono (s1.trans s2)) (λ_=>?_) (λc=>by cases c);unfold i5;match p,et,en with
   | .cf c B::g,_,en=>show(if c=b then _ else none)=_;rw[if_pos (by cases c<;>cases b<;>simp[cI,dA]at en⊢)]
   | .gp::g,et,_| .gF::g,et,_| .arr B::g,et,_|[],et,_=>exact absurd et (by simp[cI,dA])
 ·have et:¬(cI p=42\/cI p=124):=λc=>h (by simpa using c)
  refine last _ false (bx.of s1) (hS.mono s1) (λ_=>?_) (λc=>by cases c);unfold i5;cases p with
  |nil=>rfl
  |cons e g=>cases e with
   |cf c B=>cases c;exact absurd (.inl U) et;exact absurd (.inr U) et
   |_=>rfl
structure Tk(k:Token)(c:UInt8)(u:Text):Prop where
 eq:dM k=c::u
 ok:fu k=true
 nm:∀a,k= .name a->isSmall c=true
theorem Gg{c:UInt8}(h:isSmall c=true):c≠42/\ c≠124/\ c≠45/\ c≠41/\ c≠126/\ c≠40:=by refine⟨?_,?_,?_,?_,?_,?_⟩<;>(intro e;subst e;exact absurd h (by decide))
theorem o7{c:UInt8}{n:Nat}(h:decide (bI c=V.int (n:Int))=true):c.toNat=n:=by have:=oY (of_decide_eq_true h);omega
theorem o8{c:UInt8}{n:Nat}(h:¬decide (bI c=V.int (n:Int))=true):¬c.toNat=n:=λe=>h (decide_eq_true (by rw[<-e];rfl))
theorem o9{c d:UInt8}(h:c.toNat=d.toNat):c=d:=UInt8.toNat_inj.mp h
def ZU(A:aE):Sp:=λvs H Q _=>∃(P:Addr->Prop) (r pl:Addr) (F:Formula) (p:List Pd) (k:Token) (c:UInt8) (u:Text),vs=[.ref r,bI c]/\ cE A P H r pl ⟨some F,p⟩ false/\ jK F p/\ Tk k c u/\
 ∀H',bx r pl H H'->uB A P H' r pl (PM.take ⟨some F,p⟩ k)->Q .aO H'
theorem ZV(T:Txt K mg A):Gd P w K mg base 5 A.El A.L7 ["self","sign"] (ZU A):=by
 refine T.XR.go (N:=["self","sign"]) ?_;rintro aC A' outer s H vs Q E hr nd ⟨P,r,pl,F,p,k,c,u,rfl,hS,hC,hK,q⟩;refine⟨_,(ag (a9 (PW.pt (kU (aR cj (pv 1) (aW T.uh)) (oB (aR cj (pv 1) (aW T.wF))))) (ag (bF (bN hr (ZT T) T.bW T.WE (pv 0) (aj (pv 1))))) (ag (a9 (aR cj (pv 1) (aW T.rT)) (af (bF (dO hr (Oa T) T.bW T.NB (pv 0)))
  (ag (bF (bN hr (F_ T) T.bW T.FH (pv 0) (aj (aW T.rT)))))) (ag (a9 (aR cj (pv 1) (aW T.FC)) (ag (bF (dO hr (ZR T) T.bW T.WG (pv 0)))) (ag (cn (pv 0) iP)))))))),?_⟩
 obtain⟨dx,fv,vs,h1,_⟩:=hS.ex;have bK:=wX p;have hsz:=hC.sz;have isSign:c≠45->isSmall c=false->k= .sign c:=λh1 h2=>by
  cases k with
  |name a=>exact absurd (hK.nm a U) (by rw[h2];simp)
  |sign d=>have:=hK.eq;simp[dM]at this;rw[this.1]
  |arrow=>have:=hK.eq;simp[dM]at this;exact absurd this.1.symm h1
 have chain:∀b:Bool,c.toNat=dA (.cf b F)->(fA (y_ (oF A.cq "take_chain_sign" (Od A) [] E0 (aZ 0) (d_ (aZ 1) eI))) iQ) {nx:=λ_ H'=>Q .aO H',rt:=Q} [some (.ref r),some (bI c)] H:=by
  intro b hb;refine⟨_,U,r,dx,_,U,h1,U,_,U,P,r,pl,F,p,b,by show[V.ref r,V.int (c.toNat:Int)]=_;rw[hb],hS,hC,λH' k' h'=>q H' k' ?_⟩;cases b with
  |false=>have e:c=42:=o9 hb;rw[isSign (by rw[e];decide) (by rw[e];decide),e];exact h'
  |true=>have e:c=124:=o9 hb;rw[isSign (by rw[e];decide) (by rw[e];decide),e];exact h'
 refine⟨_,U,U,_,U,b9 (λh=>?_) (λh=>?_)⟩
 ·exact aJ (chain false (o7 (n:=42) h))
 ·have n42:=o8 (n:=42) h
  refine⟨_,U,U,_,U,?_⟩;refine b9 (λh=>?_) (λh=>?_)
  ·exact chain true (o7 (n:=124) h)
  ·have n124:=o8 (n:=124) h
   refine⟨_,U,U,_,U,b9 (λh=>?_) (λh=>?_)⟩
   ·have e:c=45:=o9 (o7 (n:=45) h)
    have ek:k= .arrow:=by
     cases k with
     |name a=>exact absurd e (Gg (hK.nm a U)).2.2.1
     |sign d=>have hd:=hK.eq;simp[dM]at hd;have:=hK.ok;rw[hd.1,e]at this;exact absurd this (by decide)
     |arrow=>rfl
    refine⟨_,U,r,dx,_,U,h1,U,P,r,pl,F,p,false,U,hS,hC,λH1 k1 eR=>?_⟩;obtain⟨Gh,Oe,Ap,g1,_⟩:=eR.ex;have nN:=Ob hC;have kj:=wX (de F p).2;have hz1:=nN.sz;refine⟨_,U,r,Gh,_,U,g1,U,P,r,pl,_,false, .arr (de F p).1,U,eR,U,by show(de F p).2.length<=10000;omega,λH2 k2 eJ=>q _ (k1.trans k2) ?_⟩;rw[ek];show uB A P H2 r pl (push (.arr (de F p).1) (de F p).2);rw[uZ]at eJ;have eJ:cE A P H2 r pl ⟨none, .arr (de F p).1::(de F p).2⟩ (decide (100<=(de F p).2.length)):=eJ;unfold push;by_cases hl:(de F p).2.length<100
    ·rw[if_pos hl]
     rw[decide_eq_false (by omega)]at eJ;exact eJ
    ·rw[if_neg hl]
     rw[decide_eq_true (by omega)]at eJ;exact⟨_,eJ⟩
   ·have n45:=o8 (n:=45) h
    refine⟨_,U,U,_,U,b9 (λh=>?_) (λh=>?_)⟩
    ·have e:c=41:=o9 (o7 (n:=41) h)
     have ek:k= .sign 41:=by rw[isSign (by rw[e];decide) (by rw[e];decide),e]
     refine⟨_,U,r,dx,_,U,h1,U,P,r,pl,F,p,U,hS,hC,λH1 k1 eR=>q _ k1 ?_⟩;rw[ek];exact eR
    ·have n41:=o8 (n:=41) h
     obtain⟨rO,fs,f1,f2,f3,f4⟩:=hS.fail;refine⟨_,U,r,_,_,_,U,f1,T.bW,T.qk,(by rw[f2];decide),q _ f4 ?_⟩;have ek:PM.take ⟨some F,p⟩ k=none:=by
      cases k with
      |name a=>rfl
      |sign d=>have hd:=hK.eq;simp[dM]at hd;have m42:¬d=42:=λz=>n42 (by rw[<-hd.1,z];rfl);have m124:¬d=124:=λz=>n124 (by rw[<-hd.1,z];rfl);have m41:¬d=41:=λz=>n41 (by rw[<-hd.1,z];rfl);show(if d=42 then _ else if d=124 then _ else if d=41 then _ else none)=none;rw[if_neg m42,if_neg m124,if_neg m41]
      |arrow=>have hd:=hK.eq;simp[dM]at hd;exact absurd (by rw[<-hd.1];rfl) n45
     rw[ek];exact⟨_,f3⟩
theorem ZW{c:UInt8}{r:Text}{x:Token×Text}(h:lI c r=some x):∃d u,Tk x.1 d u:=by
 obtain⟨h1,h2,h3⟩:=yS h;cases hk:dM x.1 with
 |nil=>exact absurd hk h2
 |cons d u=>
  refine⟨d,u,hk,h3,λa ha=>?_⟩;unfold lI at h;rw[x8]at h;have h:=h.1;unfold one? at h;split at h
  ·have e:=ay h;subst e;cases ha
  ·split at h
   ·unfold arr? at h
    split at h
    ·have e:=ay h;subst e;cases ha
    ·cases h
   ·split at h
    ·split at h
     ·rename_i hn
      have e:=ay h;subst e;unfold isName at hn;simp only[BA,Option.any_some,bb]at hn;simp[dM]at hk;rw[<-hk.1];exact hn.1
     ·cases h
    ·cases h
theorem Gi:∀(n:Nat) (t:Text) (ts:List Token),t.length<=n->toks t=some ts->∀k∈ts,∃c u,Tk k c u
 |n,[],ts,_,h=>by rw[BI]at h;have e:=ay h;subst e;intro k hk;simp at hk
 |0,c::r,ts,hn,h=>by simp at hn
 |n+1,c::r,ts,hn,h=>by
  rw[BJ]at h;rw[aX]at hn;split at h
  ·exact Gi n r ts (by omega) h
  ·obtain⟨x,hx,h⟩:=cC.mp h
   obtain⟨l,hl,e⟩:=eu.mp h;subst e;have sp:=yS hx;have hle:x.2.length+1<=r.length+1:=by have:=congrArg List.length sp.1;rw[aX,bL]at this;have:0<(dM x.1).length:=qQ.mpr sp.2.1;omega
   intro k hk;rcases a_.mp hk with rfl|hk
   ·exact ZW hx
   ·exact Gi n x.2 l (by omega) hl k hk
def ZX(A:aE):Sp:=λvs H Q _=>∃(P:Addr->Prop) (r pl:Addr) (p:List Pd) (k:Token) (c:UInt8) (u:Text) (tv:V),vs=[.ref r,tv]/\ cE A P H r pl ⟨none,p⟩ false/\ bG H tv (c::u)/\ Tk k c u/\ jX p/\ cV p<=9000/\
 ∀H',bx r pl H H'->uB A P H' r pl (PM.take ⟨none,p⟩ k)->Q .aO H'
theorem ZY(T:Txt K mg A):Gd P w K mg base 3 A.Ek A.L6 ["self","token"] (ZX A):=by
 refine T.XQ.go (N:=["self","token"]) ?_;rintro aC A' outer s H vs Q E hr nd ⟨P,r,pl,p,k,c,u,tv,rfl,hS,⟨a,rfl,ha⟩,hK,hm,hz,q⟩;refine⟨_,(ag (a9 (dC (aP hr (F0 T) T.FF (aj (aT (pv 1) ak)))) (af (cn (pv 0) (aP hr (Za T) T.Wj (aj (pv 1))))
  (ag (bF (dO hr (N_ T) T.bW T.NA (pv 0))))) (ag (a9 (PW.pt (kU (aR cj (aT (pv 1) ak) (aW T.z8)) (oB (aR cj (aT (pv 1) ak) (aW T.z7))))) (ag (bF (bN hr (F_ T) T.bW T.FH (pv 0) (aj (aT (pv 1) ak))))) (ag (cn (pv 0) iP)))))),?_⟩
 obtain⟨dx,fv,vs,h1,h2,h3,h4⟩:=hS.ex;have bK:=wX p;have gM:H a=some (.lst (bI c::u.map bI)):=ha;have beg:∀e:Pd,c.toNat=dA e->gK e=[]->PM.take ⟨none,p⟩ k=push e p->(fA (y_ (oF A.cq "begin" (F9 A) [] E0 (aZ 0) (d_ (cw (fU K) (aZ 1) (tC (.int 0))) eI))) iQ) {nx:=λ_ H'=>Q .aO H',rt:=Q} [some (.ref r),some (.ref a)] H:=by
  intro e he hf ht;refine⟨_,U,r,dx,_,U,h1,U,_,U,_,_,_,_,U,U,ab.of gM,bT,P,r,pl,_,false,e,by show[V.ref r,V.int (c.toNat:Int)]=_;rw[he],hS,hf,by show p.length<=10000;omega,λH2 k2 eJ=>q _ k2 ?_⟩;rw[ht];rw[uZ]at eJ;have eJ:cE A P H2 r pl ⟨none,e::p⟩ (decide (100<=p.length)):=eJ;unfold push;by_cases hl:p.length<100
  ·rw[if_pos hl]
   rw[decide_eq_false (by omega)]at eJ;exact eJ
  ·rw[if_neg hl]
   rw[decide_eq_true (by omega)]at eJ;exact⟨_,eJ⟩
 refine⟨_,U,_,_,_,_,U,U,ab.of gM,bT,c,U,_,U,?_⟩;cases hs:isSmall c with
 |true=>
  have ek:k= .name (c::u):=by
   cases k with
   |name b=>rw[<-hK.eq];rfl
   |sign d=>
    have hd:=hK.eq;simp[dM]at hd;have:=tm hK.ok;rw[hd.1]at this;have ns:=Gg hs;rcases this with z|z|z|z|z
    ·exact absurd z ns.2.2.2.2.1
    ·exact absurd z ns.1
    ·exact absurd z ns.2.1
    ·exact absurd z ns.2.2.2.2.2
    ·exact absurd z ns.2.2.2.1
   |arrow=>have hd:=hK.eq;simp[dM]at hd;exact absurd hd.1.symm (Gg hs).2.2.1
  refine aJ ⟨_,U,Md P r pl, .ref a,c::u,U,⟨a,U,ha⟩,uz hS.aH h1 h2,λv' H1 s1 hv=>⟨_,U,r,_,_,_,U,s1 _ _ h1,T.bW,T.kh,(by show 3<1000;decide),?_⟩⟩;have nx:=cE.next (A:=A) (f':=some (.atom false (c::u))) hS.aH (bx.of s1) (s1 _ _ h1) (s1 _ _ h2) h3 (v':=v') hv;refine⟨_,U,r,dx,_,U,ae,U,P,r,pl, .atom false (c::u),p,false,U,nx.1,⟨U,hm,by show 1+cV p<=10000;omega⟩,λH2 k2 eJ=>q _ (nx.2.trans k2) ?_⟩;rw[ek];exact eJ
 |false=>
  have ek:k= .arrow\/k= .sign c:=by
   cases k with
   |name b=>exact absurd (hK.nm b U) (by rw[hs];simp)
   |sign d=>have hd:=hK.eq;simp[dM]at hd;rw[hd.1];exact .inr U
   |arrow=>exact .inl U
  have arr:k= .arrow->c=45:=λe=>by have hd:=hK.eq;rw[e]at hd;simp[dM]at hd;exact hd.1.symm
  refine aA ⟨_,U,_,_,_,_,U,U,ab.of gM,bT,U,_,U,b9 (λh=>?_) (λh=>?_)⟩
  ·have e:c=126:=o9 (o7 (n:=126) h)
   refine aJ (beg .gp (by rw[e];rfl) U ?_);rcases ek with z|z
   ·exact absurd (arr z) (by rw[e];decide)
   ·rw[z,e];rfl
  ·have n126:=o8 (n:=126) h
   refine⟨_,U,_,_,_,_,U,U,ab.of gM,bT,U,_,U,b9 (λh=>?_) (λh=>?_)⟩
   ·have e:c=40:=o9 (o7 (n:=40) h)
    refine beg .gF (by rw[e];rfl) U ?_;rcases ek with z|z
    ·exact absurd (arr z) (by rw[e];decide)
    ·rw[z,e];rfl
   ·have n40:=o8 (n:=40) h
    obtain⟨rO,fs,f1,f2,f3,f4⟩:=hS.fail;refine⟨_,U,r,_,_,_,U,f1,T.bW,T.qk,(by rw[f2];decide),q _ f4 ?_⟩;have et:PM.take ⟨none,p⟩ k=none:=by
     rcases ek with z|z
     ·rw[z];rfl
     ·rw[z]
      show(if c=126 then _ else if c=40 then _ else none)=none;rw[if_neg λe=>n126 (by rw[e];rfl),if_neg λe=>n40 (by rw[e];rfl)]
    rw[et];exact⟨_,f3⟩
def ZZ(A:aE):Sp:=λvs H Q _=>∃(P:Addr->Prop) (r pl:Addr) (s:MS) (k:Token) (c:UInt8) (u:Text) (tv:V),vs=[.ref r,tv]/\ cE A P H r pl s false/\ bG H tv (c::u)/\ Tk k c u/\ nq s/\ jy s<=9000/\
 ∀H',bx r pl H H'->uB A P H' r pl (PM.take s k)->Q .aO H'
theorem Z0(T:Txt K mg A):Gd P w K mg base 6 A.Ej A.L5 ["self","token"] (ZZ A):=by
 refine T.XO.go (N:=["self","token"]) ?_;rintro aC A' outer s H vs Q E hr nd ⟨P,r,pl,s,k,c,u,tv,rfl,hS,⟨a,rfl,ha⟩,hK,hm,hz,q⟩;refine⟨_,(ag (a9 (aR (mh hr.units) (ao (pv 0)) (aS bY)) (ag (bF (bN hr (ZY T) T.bW T.WC (pv 0) (aj (pv 1))))) (ag (bF (bN hr (ZV T) T.bW T.WD (pv 0) (aj (aT (pv 1) ak))))))),?_⟩;obtain⟨dx,fv,vs,h1,h2,h3,h4⟩:=hS.ex;have gM:H a=some (.lst (bI c::u.map bI)):=ha;refine⟨_,U,_,_,_,_,_,U,h1,T.bW,T.kh,U,bj _,λz hz=>?_⟩;have s1:=aa.new (o:= .lst []) hz;refine⟨_,_,qt (cT.km _ _ _ _ (aa.trans (bB _ _) s1) h4),mB ae,(qr _).shaped (by decide),mC,_,U,?_⟩;unfold nM;rw[mz,isEmpty_map];obtain⟨f,p⟩:=s;cases f with
 |none=>refine aJ ⟨_,U,r,dx,_,U,s1 _ _ h1,U,_,U,P,r,pl,p,k,c,u, .ref a,U,hS.mono s1,⟨a,U,s1 _ _ ha⟩,hK,hm.gy,by unfold jy at hz;simp only[ie,kI]at*;omega,λH' k' h'=>q _ (bx.trans (bx.of s1) k') h'⟩
 |some F=>
  have b8:(ie (some F)).isEmpty=false:=by
   show(enc F).isEmpty=false;cases he:enc F with
   |nil=>exact absurd he (BF F)
   |cons _ _=>rfl
  show if(ie (some F)).isEmpty=true then _ else _;rw[b8];refine aA ⟨_,U,r,dx,_,U,s1 _ _ h1,U,_,U,_,_,_,_,U,U,ab.of (s1 _ _ gM),bT,P,r,pl,F,p,k,c,u,U,hS.mono s1,⟨hm.mul,hm.gy,?_⟩,hK,λH' k' h'=>q _ (bx.trans (bx.of s1) k') h'⟩;unfold jy at*;simp only[ie]at*;omega
def Z1(A:aE):Sp:=λvs H Q _=>∃(P:Addr->Prop) (r pl:Addr) (s:MS),vs=[.ref r]/\ cE A P H r pl s false/\ nq s/\ jy s<=9000/\
 ∀v' H',bx r pl H H'->cT (Wo (Md P r pl) H') v' (ie (PM.whole s))->Q v' H'
theorem Z2(T:Txt K mg A):Gd P w K mg base 4 A.Ew A.Me ["self"] (Z1 A):=by
 refine T.X0.go (N:=["self"]) ?_;rintro aC A' outer s H vs Q E hr nd ⟨P,r,pl,s,rfl,hS,hm,hz,q⟩;refine⟨_,(af (a9 (aR (mh hr.units) (ao (pv 0)) (aS bY)) (ag (aB (aS bY))) bt)
  (af (bF (dO hr (Oc T) T.bW T.ND (pv 0)))
  (ag (aB (kW (aR (mh hr.units) (ao (pv 0)) (aS bY)) (ao (pv 0)) (aS bY)))))),?_⟩
 obtain⟨dx,fv,vs,h1,h2,h3,h4⟩:=hS.ex;refine⟨_,U,_,_,_,_,_,U,h1,T.bW,T.kh,U,bj _,λz hz=>?_⟩;have s1:=aa.new (o:= .lst []) hz;have hM:=uz hS.aH h1 h2;refine⟨_,_,qt (cT.km _ _ _ _ (aa.trans (bB _ _) s1) h4),mB ae,(qr _).shaped (by decide),mC,_,U,?_⟩;unfold nM;rw[mz,isEmpty_map];obtain⟨f,p⟩:=s;cases f with
 |none=>exact aJ ⟨bj _,λg hg=>q _ _ (bx.of (s1.trans (aa.new hg))) ⟨g,[],U,e9 (hM.mono s1) hg, .nil⟩⟩
 |some F=>
  have b8:(ie (some F)).isEmpty=false:=by
   show(enc F).isEmpty=false;cases he:enc F with
   |nil=>exact absurd he (BF F)
   |cons _ _=>rfl
  show if(ie (some F)).isEmpty=true then _ else _;rw[b8];have hC:jK F p:=⟨hm.mul,hm.gy,by unfold jy at*;simp only[ie]at*;omega⟩
  refine aA ⟨_,U,r,dx,_,U,s1 _ _ h1,U,P,r,pl,F,p,false,U,hS.mono s1,hC,λH1 k1 eR=>?_⟩;have hq:PM.whole ⟨some F,p⟩=match gq F p with
   |(B,[])=>some B
   |_=>none:=rfl
  rw[hq]at q;generalize gq F p=w at eR q;obtain⟨F1,p1⟩:=w;obtain⟨Gh,Oe,Ap,g1,g2,g3,g4⟩:=eR.ex;refine⟨_,U,_,_,_,_,_,U,g1,T.bW,T.nE,U,bj _,λy hy=>?_⟩;have s2:=aa.new (o:= .lst []) hy;have g3':=bO (λ_ _ q=>jJ.mono _ _ _ _ (aa.trans (bB (Md P r pl) H1) s2) q) g3;have kk:bx r pl H (upd H1 y (.lst [])):=bx.trans (bx.of s1) (k1.same s2);refine⟨_,_, .lst (ab.of (s2 _ _ g2)) (Ak (λ_ _ r=>N8 r) g3'),mB ae,(N7 _).shaped (by decide),mC,_,U,?_⟩;rw[mz,isEmpty_map];cases p1 with
  |nil=>exact aJ ⟨_,U,_,_,_,_,_,U,s2 _ _ g1,T.bW,T.kh,U,q _ _ kk (cT.km _ _ _ _ (bV s2) g4)⟩
  |cons e p2=>
   have b8:((e::p2).reverse).isEmpty=false:=by rw[rY];cases p2.reverse<;>rfl
   show if((e::p2).reverse).isEmpty=true then _ else _;rw[b8];exact aA ⟨bj _,λg hg=>q _ _ (kk.same (aa.new hg)) ⟨g,[],U,e9 ((uz eR.aH g1 g2).mono s2) hg, .nil⟩⟩
theorem Z3(t:Text)(h:t.length<=2000):gX t=PM.run ⟨none,[]⟩ ((toks t).getD []):=by
 unfold gX;rw[if_neg (by omega)];cases toks t with
 |none|some ts=>rfl
theorem Z4(t:Text):wV t=((toks t).getD []).map dM:=by
 unfold wV;cases toks t with
 |none|some ts=>rfl
def Z5:Sp:=λvs H Q _=>∃(P:Addr->Prop) (v:V) (t:Text),vs=[v]/\ bG H v t/\ t.length<=4000/\ Hid P H/\ ∀v' H',aa H H'->cT (Wo P H') v' (ie (gX t))->Q v' H'
theorem Z6(T:Txt K mg A):Gd P w K mg base 7 A.Ed A.LW ["text"] Z5:=by
 refine T.XF.go (N:=["text","reading","token"]) ?_;rintro aC A' outer s H vs Q E hr nd ⟨P,v,t,rfl,⟨a,rfl,ha⟩,hlen,hP,q⟩;refine⟨_,(af (a9 (aR rJ (dw T.c6 (pv 0)) (aW T.VP)) (ag (aB (aS bY))) bt)
  (af (aN 1 nd (Ls hr (ZG T) T.Y1 T.Wf))
  (af (eZ PassesOwn.never U (eE (aP hr (ZE T) T.Wx (aj (pv 0)))) (cx 2 nd) (af (bF (bN hr (Z0 T) T.bW T.WB (pv 1) (aj (pv 2))))
  (ag (a9 (dC (ao (pv 1))) (ag (aB (aS bY))) bt))))
  (ag (aB (dO hr (Z2 T) T.bW T.WH (pv 1))))))),?_⟩
 refine⟨_,U,a,_,U, .inl (ab.of ha),_,_,U,U,_,U,b9 (λh=>?_) (λh=>?_)⟩
 ·have hl:2000<t.length:=by have:=of_decide_eq_true h;simp at this;omega
  refine⟨bj _,λz hz=>q _ _ (aa.new hz) ⟨z,[],U,e9 hP hz,?_⟩⟩;unfold gX;rw[if_pos hl];exact .nil
 ·have hl:t.length<=2000:=by
   have:¬((2000:Int)<((t.map bI).length:Int)):=λc=>h (decide_eq_true c);simp at this;omega
  rw[Z3 t hl]at q;intro r dx nr ndx nrd;have s0:aa H (upd (upd H dx (.own r)) r (.ins A.cq dx [])):=c5 (aa.new ndx) nr;refine⟨P,r,dx,U,ae,hP.mono s0,λH1 pl k1 bK eR=>⟨U,?_⟩⟩;have npl:H pl=none:=s0.free bK;have s1:aa H H1:=λb o e=>k1 b o (s0 b o e) (bS e nr) (bS e npl);obtain⟨Gh,Oe,Ap,g1,g2,_⟩:=eR.ex;refine⟨_,U,Md P r pl, .ref a,t,U,⟨a,U,s1 _ _ ha⟩,hlen,uz eR.aH g1 g2,λv2 H2 s2 h2=>?_⟩;rw[Z4]at h2;have Of:∀k∈(toks t).getD [],vF k/\ ∃c u,Tk k c u:=by
   cases ht:toks t with
   |none=>intro k hk;simp at hk
   |some ts=>exact λk hk=>⟨((vG _ t ts (aM _) ht).1 k hk).1,Gi _ t ts (aM _) ht k hk⟩
  have Aq:((toks t).getD []).length<=2000:=by
   cases ht:toks t with
   |none=>simp
   |some ts=>exact cO (vG _ t ts (aM _) ht).2 hl
  generalize (toks t).getD []=ts at q h2 Of Aq;obtain⟨c,xs,rfl,hc,cg⟩:=h2;have jh:=ck cg;rw[aI]at jh;refine⟨c,U,⟨_,ab.of (bB _ _ _ _ hc)⟩,gL (xs:=xs) (λi σ' H'=>∃s u,σ'=[some (.ref a),some (.ref r),u]/\ aa H H'/\ bx r pl H2 H'/\ cE A P H' r pl s false/\ nq s/\ jy s<=i/\ PM.run ⟨none,[]⟩ ts=PM.run s (ts.drop i))
   ⟨⟨none,[]⟩,none,U,s1.trans s2,bx.refl,eR.mono s2,JK,aM _,by rw[kL]⟩ (λi σ' H' _ ⟨_,_,_,_,k,_⟩=>ab.of (bB _ _ _ _ (k.wo _ _ hc))) ?_ ?_⟩
  ·rintro i x σ' H' hx ⟨s,u,rfl,sm,k,hS,hm,hz,bP⟩
   obtain⟨y,hy,w8⟩:=fB cg hx;obtain⟨tk,zo,rfl⟩:=lu hy;obtain⟨Ai,d,w,hTk⟩:=Of tk (bC zo);have hi:=dm zo;have hxT:bG H' x (d::w):=by have:=bG.mono _ _ _ _ (aa.trans k.wo (bB _ _)) w8;rw[hTk.eq]at this;exact this
   obtain⟨Ar,Z7,Gj,g3,_⟩:=hS.ex;have hd:ts.drop i=tk::ts.drop (i+1):=by have e:ts[i]=tk:=(cP.mp zo).2;rw[jP hi,e]
   rw[hd]at bP;refine⟨_,U,r,Ar,_,U,g3,U,_,U,P,r,pl,s,tk,d,w,x,U,hS,hxT,hTk,hm,by omega,λH3 k3 hT=>?_⟩;have rZ:aa H H3:=λb o e=>k3 b o (sm b o e) (bS e nr) (bS e npl);have w9:PM.run s (tk::ts.drop (i+1))=match PM.take s tk with
    |some s'=>PM.run s' (ts.drop (i+1))
    |none=>none:=rfl
   rw[w9]at bP;cases htake:PM.take s tk with
   |none=>rw[htake]at hT bP;obtain⟨s',hF⟩:=hT;obtain⟨Z8,Z9,Z_,g4,g5,_⟩:=hF.ex;refine⟨_,U,_,_,_,_,_,U,g4,T.bW,T.qk,U,_,U,aJ ⟨bj _,λz hz=>?_⟩⟩;refine q _ _ (rZ.trans (aa.new hz)) ⟨z,[],U,e9 (hP.mono rZ) hz,?_⟩;rw[bP];exact .nil
   |some s'=>rw[htake]at hT bP;have aK:=JI htake hm Ai;obtain⟨Z8,Z9,Z_,g4,g5,_⟩:=cE.ex hT;exact⟨_,U,_,_,_,_,_,U,g4,T.bW,T.qk,U,_,U,aA ⟨s',_,U,rZ,k.trans k3,hT,aK.1,by omega,bP⟩⟩
  ·rintro σ' H' ⟨s,u,rfl,sm,k,hS,hm,hz,bP⟩
   rw[jh,lG]at bP;obtain⟨Ar,Z7,Gj,g3,g5,_⟩:=hS.ex;refine⟨_,U,r,Ar,_,U,g3,U,P,r,pl,s,U,hS,hm,by omega,λv' H3 k3 hv=>?_⟩;have rZ:aa H H3:=λb o e=>k3 b o (sm b o e) (bS e nr) (bS e npl);refine q _ _ rZ ?_;rw[bP];exact cT.km _ _ _ _ (zQ λb hb=> .inl hb) hv
def gP{α:Type}(R:Hp->V->α->Prop)(H:Hp)(v:V):Option α->Prop
 |some x=>R H v x
 |none=>v= .aO
theorem gP.mono{α:Type}{R:Hp->V->α->Prop}(m:eP R):eP (gP R):=λH H' v o s h=>by
 cases o with
 |none=>exact h
 |some x=>exact m _ _ _ _ s h
def Z':Sp:=λvs H Q _=>∃(v:V) (t:Text),vs=[v]/\ bG H v t/\ iV H Q ((Vanetc.trimmed t).map bI)
theorem Og(T:Txt K mg A):Gd P w K mg base 1 A.EE A.Mo ["text"] Z':=by
 refine T.X9.go (N:=["text","begin","end"]) ?_;rintro aC A' outer s H vs Q E hr nd ⟨v,t,rfl,⟨a,rfl,ha⟩,q⟩;refine⟨_,(af (aN 1 nd ak)
  (af (aN 2 nd (dw T.c6 (pv 0)))
  (af (j3 PassesOwn.never (PW.pt (tU (aR iq (pv 1) (pv 2)) (tT (aR cj (aT (pv 0) (pv 1)) (aW T.wD))))) (ag (vR (i:=1) nd U (Or.inl U) ak zj)))
  (af (j3 PassesOwn.never (PW.pt (tU (aR iq (pv 1) (pv 2)) (tT (aR cj (aT (pv 0) (b_ rH (pv 2) ak)) (aW T.wD))))) (ag (vR (i:=2) nd U (Or.inl U) ak SK)))
  (ag (aB (oH oI (pv 0) (je (pv 1)) (je (pv 2))))))))),?_⟩
 have get:∀i:Nat,i<t.length->∃c,t[i]? =some c/\ (t.map bI)[i]? =some (bI c):=λi hi=>⟨t[i],br hi,by rw[ez,br hi];rfl⟩
 refine⟨_,U,a,_,U, .inl (ab.of ha),?_⟩;rw[aI];obtain⟨W,hW⟩:∃W:Nat->L2.St->Hp->Prop,W=λm σ' H'=>∃i:Nat,σ'=[some (.ref a),some (.int (i:Int)),some (.int (t.length:Int))]/\ H'=H/\ m=t.length-i/\ i<=t.length/\ ∀x∈t.take i,x=32:=⟨_,U⟩
 refine⟨W,⟨_,by rw[hW];exact⟨0,U,U,U,bj _,by simp⟩⟩,λm σ' H' w=>?_⟩;rw[hW]at w;obtain⟨i,rfl,rfl,rfl,hi,h1⟩:=w;have second:(i<t.length->∀x,t[i]? =some x->x≠32)->(fA (J0 (JV (l_ (cw (jb λi j=> .bl (decide (i<j))) (aZ 1) (aZ 2))) (l_ (cw l9 (cw (fU K) (aZ 0) (cw (jb λi j=> .int (i-j)) (aZ 2) (tC (.int 1)))) (tC (.int 32))))) (fA (JZ 2 (tC (.int 1)) (jb λi j=> .int (i-j))) iQ)) (fA (jC (C5 (C8 K) (aZ 0) (vW (aZ 1)) (vW (aZ 2)))) iQ)) {nx:=λ_ H'=>Q .aO H',rt:=Q} [some (.ref a),some (.int (i:Int)),some (.int (t.length:Int))] H':=by
  intro h2;obtain⟨Z,hZ⟩:∃Z:Nat->L2.St->Hp->Prop,Z=λm σ' H''=>∃j:Nat,σ'=[some (.ref a),some (.int (i:Int)),some (.int (j:Int))]/\ H''=H'/\ m=j+1/\ i<=j/\ j<=t.length/\ ∀x∈t.drop j,x=32:=⟨_,U⟩
  refine⟨Z,⟨_,by rw[hZ];exact⟨t.length,U,U,U,hi,aM _,by simp⟩⟩,λm σ' H'' w=>?_⟩;rw[hZ]at w;obtain⟨j,rfl,rfl,rfl,iH,hj,h3⟩:=w;have fin:(i<j->∀x,t[j-1]? =some x->x≠32)->(fA (jC (C5 (C8 K) (aZ 0) (vW (aZ 1)) (vW (aZ 2)))) iQ) {nx:=λ_ H'=>Q .aO H',rt:=Q} [some (.ref a),some (.int (i:Int)),some (.int (j:Int))] H'':=λh4=>by refine⟨_,U,_,U,_,U,_,U,_,U,a,_,U,ab.of ha,λp hp=>q p _ (aa.new hp) hp ?_⟩;rw[ae,uf _ iH (by rw[aI];exact hj),<-oa,<-pH,Q2 t i j iH hj h1 (λc=>h2 (by omega)) h3 h4]
  refine⟨_,U,_,U,_,_,U,U,_,U,b9 (λh=>?_) (λh=>?_)⟩
  ·have aU:i<j:=by have:=of_decide_eq_true h;omega
   obtain⟨c,mv,jI⟩:=get (j-1) (by omega);refine⟨_,U,_,U,_,_,U,U,_,_,_,_,U,U,ab.of ha,at_of (j:=j-1) (by omega) jI,U,_,U,b9 (λh=>?_) (λh=>?_)⟩
   ·have e:c=32:=o9 (o7 (n:=32) h)
    refine⟨λσ' H'=>∃m',m'<j+1/\ Z m' σ' H',λ_ _ h=>h,?_⟩;refine⟨_,U,_,_,U,U,j-1+1,by omega,?_⟩;rw[hZ];refine⟨j-1,?_,U,U,by omega,by omega,λx hx=>?_⟩
    ·show[some (V.ref a),some (V.int (i:Int)),some (V.int ((j:Int)-1))]=_
     rw[show(j:Int)-1=((j-1:Nat):Int) by omega]
    ·rw[jP (show j-1<t.length by omega),show j-1+1=j by omega]at hx
     rcases a_.mp hx with rfl|hx
     ·have:=(cP.mp mv).2
      rw[this];exact e
     ·exact h3 x hx
   ·have e:=o8 (n:=32) h
    refine fin λ_ x hx=>?_;rw[mv]at hx;rw[<-ay hx];intro z;exact e (by rw[z];rfl)
  ·exact fin λc=>absurd (decide_eq_true (by omega)) h
 refine⟨_,U,_,U,_,_,U,U,_,U,b9 (λh=>?_) (λh=>?_)⟩
 ·have aU:i<t.length:=by have:=of_decide_eq_true h;omega
  obtain⟨c,mv,jI⟩:=get i aU;refine⟨_,U,_,U,_,_,_,_,U,U,ab.of ha,bH jI,U,_,U,b9 (λh=>?_) (λh=>?_)⟩
  ·have e:c=32:=o9 (o7 (n:=32) h)
   refine⟨λσ' H'=>∃m',m'<t.length-i/\ W m' σ' H',λ_ _ h=>h,?_⟩;refine⟨_,U,_,_,U,U,t.length-(i+1),by omega,?_⟩;rw[hW];refine⟨i+1,U,U,U,by omega,λx hx=>?_⟩;rw[iy mv]at hx;rcases cN.mp hx with hx|hx
   ·exact h1 x hx
   ·simp at hx;rw[hx];exact e
  ·have e:=o8 (n:=32) h
   refine second λ_ x hx=>?_;rw[mv]at hx;rw[<-ay hx];intro z;exact e (by rw[z];rfl)
 ·exact second λc=>absurd (decide_eq_true (by omega)) h
def aaa:Sp:=λvs H Q _=>∃(v:V) (t:Text),vs=[v]/\ bG H v t/\ ∀H',aa H H'->Q (.int (d8 t)) H'
theorem Oh{t:Text}(h:oo t=true):d8 t= -1:=by unfold d8;rw[BM,if_pos h]
theorem aab{t:Text}(h:oo t=false)(k:t.all isDigit=true):d8 t=(valOf t:Int):=by unfold d8;rw[BM,if_neg (by rw[h];simp),if_pos k]
theorem aac{t:Text}(k:t.all isDigit=false):d8 t= -1:=by
 have e:(if oo t=true then none else if false=true then some (PM.valOf t)else none)=(none:Option Nat):=by split<;>rfl
 unfold d8;rw[BM,k,e]
theorem Oi(T:Txt K mg A):Gd P w K mg base 2 A.ED A.Mn ["text"] aaa:=by
 refine T.X8.go (N:=["text","number","byte"]) ?_;rintro aC A' outer s H vs Q E hr nd ⟨v,t,rfl,⟨a,rfl,ha⟩,q⟩;refine⟨_,(af (a9 (PW.pt (kU (aR (mh hr.units) (pv 0) (aS bY)) (oB (PW.pt (tU (aR cj (aT (pv 0) ak) (aW T.FD)) (tT (aR rJ (dw T.c6 (pv 0)) ak))))))) (ag (aB (il ip ak))) bt)
  (af (aN 1 nd ak)
  (af (eZ PassesOwn.never U (eE (pv 0)) (cx 2 nd) (af (a9 (ij (dC (aP hr (NT T) T.Nq (aj (pv 2))))) (ag (aB (il ip ak))) bt)
  (ag (aN 1 nd (b_ rH (b_ jd (b_ zi ak (pv 1)) (pv 2)) (aW T.FD))))))
  (ag (aB (pv 1)))))),?_⟩
 refine⟨_,U,bj _,λz hz=>?_⟩;have s1:=aa.new (o:= .lst []) hz;have qw:=s1 _ _ ha;refine⟨_,_,uy ⟨a,U,qw⟩,mB ae,(ux _).shaped (by decide),mC,_,U,?_⟩;rw[mz,isEmpty_map];generalize upd H z (.lst [])=H1 at s1 qw⊢;cases t with
 |nil=>exact aJ (aJ ⟨_,U,by have:=q H1 s1;rw[Oh U]at this;exact this⟩)
 |cons c r=>
  have loop:oo (c::r)=false->(fA (oE (tC (.int 0)) (ik 1)) (fA (J3 (J1 K (aZ 0)) (ik 2) (fA (rC (JW (tB (iR NS [] E0 (d_ (aZ 2) eI)))) (fA (jC (ze (rU λi=> .int (-i)) (tC (.int 1)))) iQ) iQ) (fA (oE (cw (jb λi j=> .int (i-j)) (cw (jb λi j=> .int (i+j)) (cw (rI zh λi j=> .int (i*j)) (tC (.int 10)) (aZ 1)) (aZ 2)) (tC (.int 48))) (ik 1)) iQ))) (fA (jC (aZ 1)) iQ))) {nx:=λ_ H'=>Q .aO H',rt:=Q} [some (.ref a),none,none] H1:=by
   intro hb;refine⟨_,U,a,U,⟨_,ab.of qw⟩,gL (xs:=(c::r).map bI) (λi σ' H'=>∃u,σ'=[some (.ref a),some (.int (valOf ((c::r).take i):Int)),u]/\ H'=H1/\ ((c::r).take i).all isDigit=true) ⟨none,U,U,U⟩ (λi σ' H' _ ⟨_,_,e,_⟩=>by rw[e];exact ab.of qw) ?_ ?_⟩
   ·rintro i x σ' H' hx ⟨u,rfl,rfl,hd⟩
    obtain⟨d,w_,rfl⟩:=lu hx;refine⟨_,U,d,U,_,U,?_⟩;cases As:isDigit d with
    |false=>
     refine aJ ⟨_,U,?_⟩;have:=q H' s1;rw[aac (by
      cases ha:(c::r).all isDigit with
      |false=>rfl
      |true=>have:=iC.mp ha d (bC w_);rw[As]at this;cases this)]at this
     exact this
    |true=>
     have h48:48<=d.toNat:=by rw[digit_eq]at As;simp at As;omega
     refine aA ⟨_,U,_,_,U,U, .inl ⟨by decide,by decide⟩,_,U,_,_,U,U,_,_,U,U,some (bI d),?_,U,?_⟩
     ·rw[iy w_,Q3]
      show[some (V.ref a),some (V.int (10*(valOf ((c::r).take i):Int)+(d.toNat:Int)-48)),some (bI d)]=_;rw[show 10*(valOf ((c::r).take i):Int)+(d.toNat:Int)-48=((10*valOf ((c::r).take i)+(d.toNat-48):Nat):Int) by omega]
     ·rw[iy w_,ye,hd];simp[As]
   ·rintro σ' H' ⟨u,rfl,rfl,hd⟩
    rw[aI,kK]at hd⊢;refine⟨_,U,?_⟩;have:=q H' s1;rw[aab hb hd]at this;exact this
  have Gk:H1 a=some (.lst (bI c::r.map bI)):=qw;refine aA ⟨_,U,_,_,_,_,U,U,ab.of Gk,bT,U,_,U,b9 (λh=>?_) (λh=>?_)⟩
  ·have e:c=48:=o9 (o7 (n:=48) h)
   refine⟨_,U,a,_,U, .inl (ab.of qw),_,_,U,U,_,U,b9 (λh=>?_) (λh=>?_)⟩
   ·have hl:1<(c::r).length:=by have:=of_decide_eq_true h;simp at this⊢;omega
    refine⟨_,U,?_⟩;have:=q H1 s1;rw[Oh (by unfold oo;rw[decide_eq_true hl,e];rfl)]at this;exact this
   ·have hl:¬1<(c::r).length:=λz=>h (decide_eq_true (by rw[aI];omega))
    exact loop (by unfold oo;rw[decide_eq_false hl];rfl)
  ·have e:=o8 (n:=48) h
   refine loop ?_;unfold oo;have:((c::r).head? ==some 48)=false:=by rw[BA];exact beq_eq_false_iff_ne.mpr λz=>e (by rw[ay z];rfl)
   rw[this,n_];rfl
def aad:Sp:=λvs H Q _=>∃(P:Addr->Prop) (v:V) (t:Text),vs=[v]/\ bG H v t/\ t.length<=4000/\ Hid P H/\ ∀v' H',aa H H'->gP d6 (Wo P H') v' (Vanetc.pairOf t)->Q v' H'
theorem aae(T:Txt K mg A):Gd P w K mg base 3 A.EC A.Mm ["text"] aad:=by
 refine T.X7.go (N:=["text","halves","lesser","greater"]) ?_;rintro aC A' outer s H vs Q E hr nd ⟨P,v,t,rfl,ht,hlen,hP,q⟩;refine⟨_,(af (aN 1 nd (aP hr (Ag T) T.z_ (aY (pv 0) (aW T.rT))))
  (af (a9 (aR t5 (dw T.c6 (pv 1)) ak) (ag (aB i_)) bt)
  (af (aN 2 nd (aP hr (Oi T) T.NH (aj (aT (pv 1) ak))))
  (af (aN 3 nd (aP hr (Oi T) T.NH (aj (aT (pv 1) ak))))
  (af (a9 (PW.pt (kU (aR iq (pv 2) ak) (oB (aR j6 (pv 3) (pv 2))))) (ag (aB i_)) bt)
  (ag (aB (gh (aY (pv 2) (pv 3)))))))))),?_⟩
 rw[Q4]at q;refine⟨_,U,P,v,t,45,U,ht,hlen,hP,λv1 H1 s1 h1=>?_⟩;obtain⟨c,xs,rfl,hc,cg⟩:=h1;have hl:=ck cg;have i9:=bB _ _ _ _ hc;refine⟨_,U,c,_,U, .inl (ab.of i9),U,_,U,?_⟩;rw[uv];generalize cutAt 45 t=ts at q cg hl;match ts,xs,cg,hl with
 |[a,b],[va,vb], .cons ra (.cons rb .nil),_=>
  have Gm:=bG.mono _ _ _ _ (bB _ _) ra;have Gn:=bG.mono _ _ _ _ (bB _ _) rb;refine aA ?_;refine⟨_,U,_,_,_,_,U,U,ab.of i9,bT,va,a,U,Gm,λH2 s2=>?_⟩;refine⟨_,U,_,_,_,_,U,U,ab.of (s2 _ _ i9),fO,vb,b,U,bG.mono _ _ _ _ s2 Gn,λH3 s3=>?_⟩;have cU:=(s1.trans s2).trans s3;refine⟨_,U,_,_,U,U,_,U,b9 (λh=>?_) (λh=>?_)⟩
  ·have e:=of_decide_eq_true h
   refine aJ (q _ _ cU ?_);show gP d6 _ _ (if d8 a<0\/d8 b<=d8 a then none else _);rw[if_pos (.inl e)];rfl
  ·have e:¬d8 a<0:=λc=>h (decide_eq_true c)
   refine⟨_,U,_,U,_,_,U,U,_,U,b9 (λh=>?_) (λh=>?_)⟩
   ·have e2:=of_decide_eq_true h
    refine q _ _ cU ?_;show gP d6 _ _ (if d8 a<0\/d8 b<=d8 a then none else _);rw[if_pos (.inr e2)];rfl
   ·have e2:¬d8 b<=d8 a:=λc=>h (decide_eq_true c)
    refine⟨_,U,_,U,gm,λp hp=>q _ _ (cU.trans (aa.new hp)) ?_⟩;show gP d6 _ _ (if d8 a<0\/d8 b<=d8 a then none else _);rw[if_neg (by omega)];refine⟨p,U,?_⟩;rw[e9 (hP.mono cU) hp];show some (HO.tup [V.int (d8 a),V.int (d8 b)])=some (HO.tup [V.int ((d8 a).toNat:Int),V.int ((d8 b).toNat:Int)]);rw[Int.toNat_of_nonneg (by omega),Int.toNat_of_nonneg (by omega)]
 |[],[],_,_|[a],[va],_,_=>exact aJ (q _ _ s1 U)
 |a::b::d::r,va::vb::vd::vr,_,hl=>have:(decide (((va::vb::vd::vr).length:Int)=2))=false:=decide_eq_false (by simp;omega);rw[this];exact aJ (q _ _ s1 U)
def aaf:Sp:=λvs H Q _=>∃(P:Addr->Prop) (v:V) (t:Text),vs=[v]/\ bG H v t/\ t.length<=4000/\ Hid P H/\ ∀v' H',aa H H'->gP (cS d6) (Wo P H') v' (Vanetc.pairsOf t)->Q v' H'
theorem Oj(t:Text):(Vanetc.trimmed t).length<=t.length:=by rw[BL,sZ];refine cO (xQ _).length_le ?_;rw[sZ];exact(xQ _).length_le
theorem Au(b:UInt8):∀t:Text,(cutAt b t).length<=t.length+1
 |[]=>aM _
 |c::r=>by
  have ih:=Au b r;unfold Vaneta.cutAt;split
  ·simp;omega
  ·split
   ·rename_i w ws h;rw[h]at ih;simp at ih⊢;omega
   ·simp
theorem xa(b:UInt8):∀(t:Text),∀x∈cutAt b t,x.length<=t.length
 |[],x,hx=>by simp[Vaneta.cutAt]at hx;rw[hx];exact aM _
 |c::r,x,hx=>by
  have ih:=xa b r;unfold Vaneta.cutAt at hx;split at hx
  ·rcases a_.mp hx with rfl|hx
   ·simp
   ·have:=ih x hx;simp;omega
  ·split at hx
   ·rename_i w ws h
    rcases a_.mp hx with rfl|hx
    ·have:=ih w (by rw[h];simp);simp;omega
    ·have:=ih x (by rw[h];simp[hx]);simp;omega
   ·simp at hx;rw[hx];simp
theorem aag(T:Txt K mg A):Gd P w K mg base 4 A.EB A.Ml ["text"] aaf:=by
 refine T.X6.go (N:=["text","inner","pairs","last","stretch","pair"]) ?_;rintro aC A' outer s H vs Q E hr nd ⟨P,v,t,rfl,ht,hlen,hP,q⟩;refine⟨_,(af (aN 1 nd (aP hr (Og T) T.NI (aj (pv 0))))
  (af (a9 (aR (mh hr.units) (pv 1) (aS bY)) (ag (aB (aS bY))) bt)
  (af (aN 2 nd (aS bY))
  (af (aN 3 nd (il ip ak))
  (af (eZ PassesOwn.never U (eE (aP hr (Ag T) T.z_ (aY (pv 1) (aW T.wD)))) (cx 4 nd) (af (aN 5 nd (aP hr (aae T) T.WJ (aj (pv 4))))
  (af (a9 (PW.pt (kU (aR rK (pv 5) i_) (oB (aR j6 (cW (pv 5) ak) (pv 3))))) (ag (aB i_)) bt)
  (af (bF (dD (pv 2) (pv 5)))
  (ag (aN 3 nd (cW (pv 5) ak)))))))
  (ag (aB (pv 2)))))))),?_⟩
 rw[HX]at q;have Aq:=Oj t;refine⟨_,U,v,t,U,ht,λa H1 s1 _ ha=>?_⟩;generalize Vanetc.trimmed t=tr at q Aq ha;refine⟨_,U,bj _,λz hz=>?_⟩;have s2:=aa.new (o:= .lst []) hz;have bQ:=s1.trans s2;refine⟨_,_,uy ⟨a,U,s2 _ _ ha⟩,mB ae,(ux _).shaped (by decide),mC,_,U,?_⟩;rw[mz,isEmpty_map];cases xb:tr.isEmpty with
 |true=>rw[if_pos xb]at q;exact aJ ⟨bj _,λy hy=>q _ _ (bQ.trans (aa.new hy)) ⟨y,[],U,e9 (hP.mono bQ) hy, .nil⟩⟩
 |false=>
  rw[if_neg (by rw[xb];simp)]at q;refine aA ⟨bj _,λl hl=>⟨_,U,?_⟩⟩;have s3:=aa.new (o:= .lst []) hl;have cU:=bQ.trans s3;have xc:Hid (aL P l) _:=(hP.mono cU).lh ae;refine⟨_,U,aL P l, .ref a,tr,32,U,⟨a,U,s3 _ _ (s2 _ _ ha)⟩,by omega,xc,λv4 H4 s4 h4=>?_⟩;have bD:=Au 32 tr;have jE:=xa 32 tr;generalize cutAt 32 tr=ts at q h4 bD jE;obtain⟨c,xs,rfl,hc,cg⟩:=h4;have jh:=ck cg;have dY:H l=none:=bQ.free hl;refine⟨c,U,⟨_,ab.of (bB _ _ _ _ hc)⟩,gL (xs:=xs) (λi σ' H'=>∃(lst:Int) (ds:List (Nat×Nat)) (vs:List V) (u w:Option V),σ'=[some v,some (.ref a),some (.ref l),some (.int lst),u,w]/\ aa H H'/\ aa (Wo (aL P l) H4) (Wo (aL P l) H')/\ Hid (aL P l) H'/\ H' l=some (.lst vs)/\ Paired (d6 (Wo (aL P l) H')) vs ds/\ vs.length<=i/\ jv (-1) ts=(jv lst (ts.drop i)).map λr=>ds++r)
   ⟨-1,[],[],none,none,U,cU.trans s4,aa.refl _,xc.mono s4,s4 _ _ ae, .nil,aM _,by rw[kL];cases jv (-1) ts<;>rfl⟩ (λi σ' H' _ ⟨_,_,_,_,_,_,_,k,_⟩=>ab.of (bB _ _ _ _ (k _ _ hc))) ?_ ?_⟩
  ·rintro i x σ' H' hx ⟨lst,ds,vs,u,w,rfl,sm,k,aH,hv,hp,gk,bP⟩
   obtain⟨y,hy,w8⟩:=fB cg hx;have hi:=dm hy;have hd:ts.drop i=y::ts.drop (i+1):=by have e:ts[i]=y:=(cP.mp hy).2;rw[jP hi,e]
   rw[hd]at bP;have w9:jv lst (y::ts.drop (i+1))=(Vanetc.pairOf y).bind λx=>if(x.1:Int)<=lst then none else(jv x.1 (ts.drop (i+1))).map λl=>x::l:=rfl;rw[w9]at bP;have h_:=jE y (bC hy);refine⟨_,U,aL P l,x,y,U,bG.mono _ _ _ _ (aa.trans k (bB _ _)) w8,by omega,aH,λv5 H5 s5 h5=>?_⟩;cases uC:Vanetc.pairOf y with
   |none=>rw[uC]at h5 bP;have h5:v5= .aO:=h5;subst h5;refine⟨_,U,U,_,U,aJ (aJ (q _ _ (sm.trans s5) ?_))⟩;rw[bP];rfl
   |some pr=>
    rw[uC]at h5 bP;have cp:=h5;obtain⟨g,rfl,hg⟩:=h5;have ku:=bB _ _ _ _ hg;simp only[cY]at bP;refine⟨_,U,U,_,U,aA ?_⟩;refine⟨_,U,_,_,_,_,U,U,bz.of ku,bT,_,U,_,_,U,U,_,U,b9 (λh=>?_) (λh=>?_)⟩
    ·have e:=of_decide_eq_true h
     rw[if_pos e]at bP;refine q _ _ (sm.trans s5) ?_;rw[bP];rfl
    ·have e:¬(pr.1:Int)<=lst:=λc=>h (decide_eq_true c)
     rw[if_neg e]at bP;refine⟨_,U, .inl ⟨U,_,ab.of (s5 _ _ hv)⟩,_,U,l,_,_,U,U,s5 _ _ hv,dk (by omega),?_⟩;have xf:g≠l:=λc=>(iT hg).1 (.inr c);refine⟨_,U,_,_,_,_,U,U,bz.of (by rw[aD xf];exact ku),bT,pr.1,ds++[pr],vs++[.ref g],_,_,U,c5 (sm.trans s5) dY,?_,(aH.mono s5).upd,ae,?_,by simp;omega,?_⟩
     ·rw[dP (.inr U)];exact k.trans (bV s5)
     ·rw[dP (.inr U)]
      exact ke (bO (λ_ _ r=>d6.mono _ _ _ _ (bV s5) r) hp) cp
     ·rw[bP,u6]
      congr 1;funext r;simp
  ·rintro σ' H' ⟨lst,ds,vs,u,w,rfl,sm,k,aH,hv,hp,gk,bP⟩
   rw[jh,lG]at bP;have e:jv (-1) ts=some ds:=by rw[bP];simp[jv]
   rw[e]at q;refine⟨_,U,q _ _ sm ⟨l,vs,U,?_,bO (λ_ _ r=>d6.mono _ _ _ _ qg r) hp⟩⟩;rw[cR (hP.not dY)];exact hv
def Av(l:List Formula):Prop:=∀A∈l,multiplicative A=true/\ nm (enc A)/\ nodes A<=2000
def readAll(l:List Text):Option (List Formula):=Vaneta.allOf (l.map gX)
theorem Ol(t:Text)(r:List Text):readAll (t::r)=(gX t).bind λa=>(readAll r).map λl=>a::l:=rfl
theorem Om:∀(l:List Text) (z:List Formula),readAll l=some z->Av z
 |[],z,h=>by cases h;intro A hA;simp at hA
 |t::r,z,h=>by
  rw[Ol]at h;obtain⟨a,ha,h⟩:=cC.mp h;obtain⟨l,hl,e⟩:=eu.mp h;subst e;intro A hA;rcases a_.mp hA with rfl|hA
  ·exact JL ha
  ·exact Om r l hl A hA
theorem Oo{t:Text}{z:List Formula}(h:kP t=some z):Av z/\ z.length<=20:=by
 unfold kP at h;split at h
 ·cases h;exact⟨λA hA=>by simp at hA,bj _⟩
 ·rw[x8]at h
  exact⟨Om _ _ h.1,of_decide_eq_true h.2⟩
theorem aai{P:Addr->Prop}{H:Hp}{v:V}{t:Text}{A:Formula}(h:cT H v (ie (gX t)))(e:gX t=some A):dj H v A:=by rw[e]at h;exact⟨(JL e).1,h⟩
def aaj:Sp:=λvs H Q _=>∃(P:Addr->Prop) (v:V) (t:Text),vs=[v]/\ bG H v t/\ t.length<=4000/\ Hid P H/\ ∀v' H',aa H H'->gP (cS dj) (Wo P H') v' (kP t)->Q v' H'
theorem Oq(T:Txt K mg A):Gd P w K mg base 8 A.EA A.Mj ["text"] aaj:=by
 refine T.X5.go (N:=["text","formulas","stretch","formula"]) ?_;rintro aC A' outer s H vs Q E hr nd ⟨P,v,t,rfl,ht,hlen,hP,q⟩;refine⟨_,(af (a9 (aR (mh hr.units) (aP hr (Og T) T.NI (aj (pv 0))) (aS bY)) (ag (aB (aS bY))) bt)
  (af (aN 1 nd (aS bY))
  (af (eZ PassesOwn.never U (eE (aP hr (Ag T) T.z_ (aY (pv 0) (aW T.VD)))) (cx 2 nd) (af (aN 3 nd (aP hr (Z6 T) T.Ww (aj (pv 2))))
  (af (a9 (aR (mh hr.units) (pv 3) (aS bY)) (ag (aB i_)) bt)
  (ag (bF (dD (pv 1) (pv 3)))))))
  (ag (aB (kW (aR j6 (dw T.c6 (pv 1)) (aW T.VS)) (pv 1) i_)))))),?_⟩
 unfold kP at q;refine⟨_,U,v,t,U,ht,λa H1 s1 _ ha=>⟨bj _,λz hz=>?_⟩⟩;have s2:=aa.new (o:= .lst []) hz;have bQ:=s1.trans s2;refine⟨_,_,uy ⟨a,U,s2 _ _ ha⟩,mB ae,(ux _).shaped (by decide),mC,_,U,?_⟩;rw[mz,isEmpty_map];cases xb:(Vanetc.trimmed t).isEmpty with
 |true=>rw[if_pos xb]at q;exact aJ ⟨bj _,λy hy=>q _ _ (bQ.trans (aa.new hy)) ⟨y,[],U,e9 (hP.mono bQ) hy, .nil⟩⟩
 |false=>
  rw[if_neg (by rw[xb];simp)]at q;refine aA ⟨bj _,λl hl=>?_⟩;have s3:=aa.new (o:= .lst []) hl;have cU:=bQ.trans s3;have xc:Hid (aL P l) _:=(hP.mono cU).lh ae;refine⟨_,U,aL P l,v,t,44,U,bG.mono _ _ _ _ cU ht,hlen,xc,λv4 H4 s4 h4=>?_⟩;have bD:=Au 44 t;have jE:=xa 44 t;have q:∀v' H',aa H H'->gP (cS dj) (Wo P H') v' ((readAll (cutAt 44 t)).filter λl=>decide (l.length<=20))->Q v' H':=q;generalize cutAt 44 t=ts at q h4 bD jE;obtain⟨c,xs,rfl,hc,cg⟩:=h4;have jh:=ck cg;have dY:H l=none:=bQ.free hl;refine⟨c,U,⟨_,ab.of (bB _ _ _ _ hc)⟩,gL (xs:=xs) (λi σ' H'=>∃(ds:List Formula) (vs:List V) (u w:Option V),σ'=[some v,some (.ref l),u,w]/\ aa H H'/\ aa (Wo (aL P l) H4) (Wo (aL P l) H')/\ Hid (aL P l) H'/\ H' l=some (.lst vs)/\ Paired (dj (Wo (aL P l) H')) vs ds/\ vs.length<=i/\ readAll ts=(readAll (ts.drop i)).map λr=>ds++r)
   ⟨[],[],none,none,U,cU.trans s4,aa.refl _,xc.mono s4,s4 _ _ ae, .nil,aM _,by rw[kL];cases readAll ts<;>rfl⟩ (λi σ' H' _ ⟨_,_,_,_,_,_,k,_⟩=>ab.of (bB _ _ _ _ (k _ _ hc))) ?_ ?_⟩
  ·rintro i x σ' H' hx ⟨ds,vs,u,w,rfl,sm,k,aH,hv,hp,gk,bP⟩
   obtain⟨y,hy,w8⟩:=fB cg hx;have hi:=dm hy;have hd:ts.drop i=y::ts.drop (i+1):=by have e:ts[i]=y:=(cP.mp hy).2;rw[jP hi,e]
   rw[hd,Ol]at bP;have h_:=jE y (bC hy);refine⟨_,U,aL P l,x,y,U,bG.mono _ _ _ _ (aa.trans k (bB _ _)) w8,by omega,aH,λv5 H5 s5 h5=>?_⟩;refine⟨_,U,bj _,λg hg=>?_⟩;have s6:=aa.new (o:= .lst []) hg;have mD:=s5.trans s6;refine⟨_,_,qt (cT.km _ _ _ _ (aa.trans (bB _ _) s6) h5),mB ae,(qr _).shaped (by decide),mC,_,U,?_⟩;unfold nM;rw[mz,isEmpty_map];cases uC:gX y with
   |none=>rw[uC]at bP;refine aJ (q _ _ (sm.trans mD) ?_);rw[bP];rfl
   |some F=>
    have hF:=aai (P:=P) (cT.km _ _ _ _ (bV s6) h5) uC;rw[uC]at bP;simp only[cY]at bP;have b8:(ie (some F)).isEmpty=false:=by
     show(enc F).isEmpty=false;cases he:enc F with
     |nil=>exact absurd he (BF F)
     |cons _ _=>rfl
    rw[b8];refine aA ⟨_,U, .inl ⟨U,_,ab.of (mD _ _ hv)⟩,_,U,l,_,_,U,U,mD _ _ hv,dk (by omega),ds++[F],vs++[v5],_,_,U,c5 (sm.trans mD) dY,?_,(aH.mono mD).upd,ae,?_,by simp;omega,?_⟩
    ·rw[dP (.inr U)];exact k.trans (bV mD)
    ·rw[dP (.inr U)]
     exact ke (bO (λ_ _ r=>dj.mono _ _ _ _ (bV mD) r) hp) hF
    ·rw[bP,u6]
     congr 1;funext r;simp
  ·rintro σ' H' ⟨ds,vs,u,w,rfl,sm,k,aH,hv,hp,gk,bP⟩
   rw[jh,lG]at bP;have e:readAll ts=some ds:=by rw[bP];simp[readAll,Vaneta.allOf]
   rw[e]at q;have bK:=ck hp;refine⟨_,U,l,_,U, .inl (ab.of hv),_,_,U,U,_,U,b9 (λh=>?_) (λh=>?_)⟩
   ·have hle:ds.length<=20:=by have:=of_decide_eq_true h;omega
    refine⟨_,U,q _ _ sm ?_⟩;rw[x6,if_pos (decide_eq_true hle)];refine⟨l,vs,U,?_,bO (λ_ _ r=>dj.mono _ _ _ _ qg r) hp⟩;rw[cR (hP.not dY)];exact hv
   ·have hle:¬ds.length<=20:=λc=>h (decide_eq_true (by omega))
    refine q _ _ sm ?_;rw[x6,if_neg (by simpa using hle)];rfl
abbrev P3:=List Formula×List Formula×List (Nat×Nat)
def Gp(c u l:V):List (Str×V):=[("conclusions",c),("cuts",u),("links",l)]
def c7(A:aE)(H:Hp)(v:V)(x:P3):Prop:=∃p dx c u l,v= .ref p/\ H p=some (.ins A.jg dx (Gp c u l))/\ cS dj H c x.1/\ cS dj H u x.2.1/\ cS d6 H l x.2.2
theorem c7.mono{A:aE}:eP (c7 A):=λ_ _ _ _ s ⟨p,dx,c,u,l,e,h,h1,h2,h3⟩=>⟨p,dx,c,u,l,e,s _ _ h,cS.mono dj.mono _ _ _ _ s h1,cS.mono dj.mono _ _ _ _ s h2,cS.mono d6.mono _ _ _ _ s h3⟩
structure qx(x:P3):Prop where
 c:Av x.1
 u:Av x.2.1
 cl:x.1.length<=20
 ul:x.2.1.length<=20
 lt:∀y∈x.2.2,y.1<y.2
 ll:x.2.2.length<=4001
theorem Ot:∀(l:List Text) (k:Int) (z:List (Nat×Nat)),jv k l=some z->z.length=l.length
 |[],k,z,h=>by cases h;rfl
 |t::r,k,z,h=>by
  unfold jv at h;obtain⟨x,hx,h⟩:=cC.mp h;split at h
  ·cases h
  ·obtain⟨l,hl,h⟩:=eu.mp h
   subst h;rw[aX,aX,Ot r x.1 l hl]
theorem Aw{t:Text}{x:P3}(hlen:t.length<=4000)(h:partsOf t=some x):qx x:=by
 rw[Ia]at h;have jE:=xa 59 t;split at h
 ·rename_i ta tb tc aak
  have hd:=jE tc (by rw[aak];simp);obtain⟨a,ha,h⟩:=cC.mp h;obtain⟨b,hb,h⟩:=cC.mp h;obtain⟨c,hc,e⟩:=eu.mp h;subst e;have h1:=Oo ha;have h2:=Oo hb;rw[HX]at hc;split at hc
  ·cases hc;exact⟨h1.1,h2.1,h1.2,h2.2,(by intro y hy;simp at hy),(by simp)⟩
  ·refine⟨h1.1,h2.1,h1.2,h2.2,HY _ _ _ hc,?_⟩
   show c.length<=4001;rw[Ot _ _ _ hc];have:=Au 32 (Vanetc.trimmed tc);have:=Oj tc;omega
 ·cases h
def aal(A:aE):Sp:=λvs H Q _=>∃(p dx:Addr) (c u l:V),vs=[.ref p,c,u,l]/\ H p=some (.ins A.jg dx [])/\ Q .aO (upd H p (.ins A.jg dx (Gp c u l)))
theorem aam(T:Txt K mg A):Gd P w K mg base 1 A.zV A.Mf ["self","conclusions","cuts","links"] (aal A):=by
 refine T.X1.go (N:=["self","conclusions","cuts","links"]) ?_;rintro aC A' outer s H vs Q E hr nd ⟨p,dx,c,u,l,rfl,hp,q⟩;refine⟨_,(af (cn (pv 0) (pv 1))
  (af (cn (pv 0) (pv 2))
  (ag (cn (pv 0) (pv 3))))),?_⟩
 refine⟨_,U,_,U,p,_,_,_,U,hp,T.gN,T.uk,(by show 0<1000;decide),?_⟩;refine⟨_,U,_,U,p,_,_,_,U,ae,T.gN,T.FV,(by show 1<1000;decide),?_⟩;refine⟨_,U,_,U,p,_,_,_,U,ae,T.gN,T.Ac,(by show 2<1000;decide),?_⟩;rw[jz,jz];exact q
def aan(A:aE):Sp:=λvs H Q _=>∃(P:Addr->Prop) (v:V) (t:Text),vs=[v]/\ bG H v t/\ t.length<=4000/\ Hid P H/\ ∀v' H',aa H H'->gP (c7 A) (Wo P H') v' (partsOf t)->Q v' H'
theorem xg{α:Type}{R:Hp->V->α->Prop}{H:Hp}{v:V}{o:Option α}(k:∀x,R H v x->v≠ .aO)(h:gP R H v o):decide (v=V.aO)=o.isNone:=by
 cases o with
 |none=>have h:v= .aO:=h;rw[h];rfl
 |some x=>exact decide_eq_false (k x h)
theorem Gq{α:Type}{R:Hp->V->α->Prop}{H:Hp}{v:V}(x:List α)(h:cS R H v x):v≠ .aO:=by obtain⟨a,_,rfl,_⟩:=h;intro z;cases z
theorem Gr(T:Txt K mg A):Gd P w K mg base 9 A.Ez A.Mi ["text"] (aan A):=by
 refine T.X4.go (N:=["text","stretches","conclusions","cuts","links"]) ?_;rintro aC A' outer s H vs Q E hr nd ⟨P,v,t,rfl,ht,hlen,hP,q⟩;refine⟨_,(af (aN 1 nd (aP hr (Ag T) T.z_ (aY (pv 0) (aW T.VF))))
  (af (a9 (aR t5 (dw T.c6 (pv 1)) ak) (ag (aB i_)) bt)
  (af (aN 2 nd (aP hr (Oq T) T.NG (aj (aT (pv 1) ak))))
  (af (aN 3 nd (aP hr (Oq T) T.NG (aj (aT (pv 1) ak))))
  (af (aN 4 nd (aP hr (aag T) T.WI (aj (aT (pv 1) ak))))
  (af (a9 (PW.pt (kU (aR rK (pv 2) i_) (kU (aR rK (pv 3) i_) (oB (aR rK (pv 4) i_))))) (ag (aB i_)) bt)
  (ag (aB (qh hr (aam T) T.Y2 T.Wg (fM (pv 2) (aY (pv 3) (pv 4)))))))))))),?_⟩
 rw[Ia]at q;refine⟨_,U,P,v,t,59,U,ht,hlen,hP,λv1 H1 s1 h1=>?_⟩;have jE:=xa 59 t;obtain⟨c,xs,rfl,hc,cg⟩:=h1;have hl:=ck cg;have i9:=bB _ _ _ _ hc;refine⟨_,U,c,_,U, .inl (ab.of i9),U,_,U,?_⟩;rw[uv];generalize cutAt 59 t=ts at q cg hl jE;match ts,xs,cg,hl with
 |[a,b,d],[va,vb,vd], .cons ra (.cons rb (.cons rd .nil)),_=>
  have Gm:=bG.mono _ _ _ _ (bB _ _) ra;have Gn:=bG.mono _ _ _ _ (bB _ _) rb;have md:=bG.mono _ _ _ _ (bB _ _) rd;have la:=jE a (by simp);have lb:=jE b (by simp);have ld:=jE d (by simp);have q:∀v' H',aa H H'->gP (c7 A) (Wo P H') v' ((kP a).bind λx=>(kP b).bind λy=>(Vanetc.pairsOf d).map λz=>(x,y,z))->Q v' H':=q;refine aA ?_;refine⟨_,U,_,_,_,_,U,U,ab.of i9,bT,P,va,a,U,Gm,by omega,hP.mono s1,λw1 H2 s2 g1=>?_⟩;refine⟨_,U,_,_,_,_,U,U,ab.of (s2 _ _ i9),fO,P,vb,b,U,bG.mono _ _ _ _ s2 Gn,by omega,hP.mono (s1.trans s2),λw2 H3 s3 g2=>?_⟩;have cU:=(s1.trans s2).trans s3;refine⟨_,U,_,_,_,_,U,U,ab.of (s3 _ _ (s2 _ _ i9)),at2,P,vd,d,U,bG.mono _ _ _ _ (s2.trans s3) md,by omega,hP.mono cU,λw3 H4 s4 g3=>?_⟩;have mE:=cU.trans s4;have g1':=gP.mono (cS.mono dj.mono) _ _ _ _ (bV (s3.trans s4)) g1;have g2':=gP.mono (cS.mono dj.mono) _ _ _ _ (bV s4) g2;refine⟨_,U,U,_,U,?_⟩;rw[xg Gq g1'];cases e1:kP a with
  |none=>exact aJ (aJ (q _ _ mE (by rw[e1];rfl)))
  |some x1=>
   refine aA ⟨_,U,U,_,U,?_⟩;rw[xg Gq g2'];cases e2:kP b with
   |none=>exact aJ (aJ (q _ _ mE (by rw[e1,e2];rfl)))
   |some x2=>
    refine aA ⟨_,U,U,_,U,?_⟩;rw[xg Gq g3];cases e3:Vanetc.pairsOf d with
    |none=>exact aJ (q _ _ mE (by rw[e1,e2,e3];rfl))
    |some x3=>rw[e1]at g1';rw[e2]at g2';rw[e3]at g3;refine aA ⟨_,U,_,U,_,U,?_⟩;intro p dx np ndx npd;have s5:aa H4 (upd (upd H4 dx (.own p)) p (.ins A.jg dx [])):=c5 (aa.new ndx) np;have s6:aa H4 (upd (upd (upd H4 dx (.own p)) p (.ins A.jg dx [])) p (.ins A.jg dx (Gp w1 w2 w3))):=c5 s5 np;refine⟨p,dx,w1,w2,w3,U,ae,U,q _ _ (mE.trans s6) ?_⟩;rw[e1,e2,e3];refine⟨p,dx,w1,w2,w3,U,?_,cS.mono dj.mono _ _ _ _ (bV s6) g1',cS.mono dj.mono _ _ _ _ (bV s6) g2',cS.mono d6.mono _ _ _ _ (bV s6) g3⟩;rw[cR ((hP.mono mE).not np),ae]
 |[],[],_,_|[a],[va],_,_|[a,b],[va,vb],_,_=>exact aJ (q _ _ s1 U)
 |a::b::d::e::r,va::vb::vd::ve::vr,_,hl=>have:(decide (((va::vb::vd::ve::vr).length:Int)=3))=false:=decide_eq_false (by simp;omega);rw[this];exact aJ (q _ _ s1 U)
def bE(x:P3):List Formula:=x.1++x.2.1.flatMap λA=>[A,dual A]
theorem aap{H:Hp}{v:V}{F:Formula}(hF:multiplicative F=true)(h:cT H v ((enc F).map qR)):dj H v (dual F):=by refine⟨by rw[jT];exact hF,?_⟩;rw[jS];exact h
def aaq(A:aE):Sp:=λvs H Q _=>∃(P:Addr->Prop) (v:V) (x:P3),vs=[v]/\ c7 A (Wo P H) v x/\ qx x/\ Hid P H/\ ∀v' H',aa H H'->cS dj (Wo P H') v' (bE x)->Q v' H'
theorem Gs(T:Txt K mg A):Gd P w K mg base 2 A.Ex A.Mg ["self"] (aaq A):=by
 refine T.X2.go (N:=["self","whole","cut"]) ?_;rintro aC A' outer s H vs Q E hr nd ⟨P,v,x,rfl,⟨p,dx,_,_,lv,rfl,hp,⟨ca,cs,rfl,fc,eT⟩,⟨ua,us,rfl,Ou,zu⟩,uD⟩,ok,hP,q⟩;refine⟨_,(af (aN 1 nd (oG C_ (by rfl) T.wC DM (aj (ao (pv 0)))))
  (af (eZ PassesOwn.never U (eE (ao (pv 0))) (cx 2 nd) (af (bF (dD (pv 1) (pv 2)))
  (ag (bF (dD (pv 1) (aP hr (wR T) T.wJ (aj (pv 2))))))))
  (ag (aB (pv 1))))),?_⟩
 have uE:=bB _ _ _ _ hp;have bD:=ck eT;have tP:=ck zu;have okl:=ok.cl;have oku:=ok.ul;refine⟨_,U,_,_,_,_,_,U,uE,T.gN,T.uk,U,ca,_,U, .inl (ab.of (bB _ _ _ _ fc)),λl hl=>?_⟩;have s0:=aa.new (o:= .lst cs) hl;refine⟨_,U,_,_,_,_,_,U,s0 _ _ uE,T.gN,T.FV,U,ua,U,⟨_,ab.of (s0 _ _ (bB _ _ _ _ Ou))⟩,gL (xs:=us) (λi σ' H'=>∃(vs:List V) (w:Option V),σ'=[some (.ref p),some (.ref l),w]/\ aa H H'/\ Hid (aL P l) H'/\ H' l=some (.lst vs)/\ Paired (dj (Wo (aL P l) H')) vs (x.1++(x.2.1.take i).flatMap λA=>[A,dual A])/\ vs.length<=20+2*i)
  ⟨cs,none,U,s0,(hP.mono s0).lh ae,ae,by
   simp only[List.take_zero,Bk,iD];exact bO (λ_ _ r=>dj.mono _ _ _ _ (qe hl s0) r) eT,by omega⟩ (λi σ' H' _ ⟨_,_,_,sm,_⟩=>ab.of (sm _ _ (bB _ _ _ _ Ou))) ?_ ?_⟩
 ·rintro i y σ' H' hy ⟨vs,w,rfl,sm,aH,hv,bh,gk⟩
  obtain⟨F,hF,rF⟩:=fB zu hy;have hi:=dm hF;have okF:=ok.u F (bC hF);have Ax:=dj.mono _ _ _ _ (qe hl sm) rF;refine⟨_,U, .inl ⟨U,_,ab.of hv⟩,_,U,l,_,_,U,U,hv,dk (by omega),?_⟩;have eW:Wo (aL P l) (upd H' l (.lst (vs++[y])))=Wo (aL P l) H':=dP (.inr U);refine⟨_,U, .inl ⟨U,_,ab.of ae⟩,_,U,aL P l,y,enc F,U,by rw[eW];exact Ax.2,jt F okF.1,by rw[bJ];omega,aH.upd,λv2 H2 s2 h2=>?_⟩;refine⟨l,_,_,U,U,s2 _ _ ae,dk (by simp;omega),(vs++[y])++[v2],_,U,c5 ((c5 sm hl).trans s2) hl,(aH.upd.mono s2).upd,ae,?_,by simp;omega⟩;have s2':=bV (P:=aL P l) s2;rw[eW]at s2';rw[dP (.inr U),iy hF,px,<-fK,fK vs];refine qb (bO (λ_ _ r=>dj.mono _ _ _ _ s2' r) bh) ?_;exact .cons (dj.mono _ _ _ _ s2' Ax) (.cons (aap okF.1 h2) .nil)
 ·rintro σ' H' ⟨vs,w,rfl,sm,aH,hv,bh,gk⟩
  rw[tP,kK]at bh;refine⟨_,U,q _ _ sm ⟨l,vs,U,?_,bO (λ_ _ r=>dj.mono _ _ _ _ qg r) bh⟩⟩;rw[cR (hP.not hl)];exact hv
theorem xh{x:P3}(ok:qx x):(∀F∈bE x,multiplicative F=true/\ nodes F<=2000)/\ (bE x).length<=60:=by
 refine⟨λF hF=>?_,?_⟩
 ·unfold bE at hF
  rcases cN.mp hF with hF|hF
  ·have:=ok.c F hF;exact⟨this.1,this.2.2⟩
  ·obtain⟨G,hG,hF⟩:=gn.mp hF
   have:=ok.u G hG;simp at hF;rcases hF with rfl|rfl
   ·exact⟨this.1,this.2.2⟩
   ·exact⟨by rw[jT];exact this.1,by rw[yj];exact this.2.2⟩
 ·unfold bE
  have h1:=ok.cl;have h2:=ok.ul;have:(x.2.1.flatMap λA=>[A,dual A]).length=2*x.2.1.length:=by
   generalize x.2.1=l;induction l with
   |nil=>rfl
   |cons a r ih=>rw[gE,bL,ih];simp;omega
  rw[bL,this];omega
def uF(l:List Formula):List Node:=l.flatMap λF=>(enc F).filter λx=> !bR x
def aas(A:aE):Sp:=λvs H Q _=>∃(P:Addr->Prop) (v:V) (x:P3),vs=[v]/\ c7 A (Wo P H) v x/\ qx x/\ Hid P H/\ ∀v' H',aa H H'->cT (Wo P H') v' (uF (bE x))->Q v' H'
theorem Ov(T:Txt K mg A):Gd P w K mg base 3 A.Ey A.Mh ["self"] (aas A):=by
 refine T.X3.go (N:=["self","found","formula"]) ?_;rintro aC A' outer s H vs Q E hr nd ⟨P,v,x,rfl,hv,ok,hP,q⟩;refine⟨_,(af (aN 1 nd (aS bY))
  (af (eZ PassesOwn.never U (eE (dO hr (Gs T) T.gN T.FI (pv 0))) (cx 2 nd) (ag (bF (wb PySem.F.plainAttrs_list PySem.F.slot_list_extend PySem.F.type_list_extend zt (pv 1) (aj (aP hr (NX T) T.Nt (aj (pv 2))))))))
  (ag (aB (pv 1))))),?_⟩
 obtain⟨fok,flen⟩:=xh ok;refine⟨bj _,λl hl=>?_⟩;have s0:=aa.new (o:= .lst []) hl;have jj:=c7.mono _ _ _ _ (qe (P:=P) hl s0) hv;have Ow:=(hP.mono s0).lh (l:=l) ae;obtain⟨p,dx,c,u,lv,rfl,hp,_⟩:=id hv;refine⟨_,U,p,dx,_,U,s0 _ _ (bB _ _ _ _ hp),U,aL P l, .ref p,x,U,jj,ok,Ow,λv1 H1 s1 h1=>?_⟩;obtain⟨ca,cs,rfl,fc,eT⟩:=h1;have bD:=ck eT;refine⟨ca,U,⟨_,ab.of (bB _ _ _ _ fc)⟩,gL (xs:=cs) (λi σ' H'=>∃(vs:List V) (w:Option V),σ'=[some (.ref p),some (.ref l),w]/\ aa H H'/\ aa (Wo (aL P l) H1) (Wo (aL P l) H')/\ Hid (aL P l) H'/\ H' l=some (.lst vs)/\ Paired (bZ (Wo (aL P l) H')) vs (uF ((bE x).take i))/\ vs.length<=2000*i)
  ⟨[],none,U,s0.trans s1,aa.refl _,Ow.mono s1,s1 _ _ ae, .nil,bj _⟩ (λi σ' H' _ ⟨_,_,_,_,k,_⟩=>ab.of (bB _ _ _ _ (k _ _ fc))) ?_ ?_⟩
 ·rintro i y σ' H' hy ⟨vs,w,rfl,sm,k,aH,hv,bh,gk⟩
  obtain⟨F,hF,rF⟩:=fB eT hy;have hi:=dm hF;have okF:=fok F (bC hF);have Ax:=dj.mono _ _ _ _ k rF;refine⟨_,U, .inl ⟨U,_,ab.of hv⟩,_,U,aL P l,y,enc F,U,Ax.2,jt F okF.1,by rw[bJ];omega,aH,λv2 H2 s2 h2=>?_⟩;obtain⟨b,ys,rfl,hb,lB⟩:=h2;have h_:=ck lB;have Ox:((enc F).filter λx=> !bR x).length<=2000:=cO (sQ _ _) (by rw[bJ];exact okF.2);refine⟨l,b,_,_,U,U,s2 _ _ hv,bB _ _ _ _ hb,fC (by omega),vs++ys,_,U,c5 (sm.trans s2) hl,?_,(aH.mono s2).upd,ae,?_,by simp;omega⟩
  ·rw[dP (.inr U)];exact k.trans (bV s2)
  ·rw[dP (.inr U),iy hF]
   unfold uF at bh⊢;rw[px];refine qb (bO (λ_ _ r=>bZ.mono _ _ _ _ (bV s2) r) bh) ?_;rw[gE,Bk,iD];exact lB
 ·rintro σ' H' ⟨vs,w,rfl,sm,k,aH,hv,bh,gk⟩
  rw[bD,kK]at bh;refine⟨_,U,q _ _ sm ⟨l,vs,U,?_,bO (λ_ _ r=>bZ.mono _ _ _ _ qg r) bh⟩⟩;rw[cR (hP.not hl)];exact hv
abbrev Lf:=Bool×Name
theorem aat(a b:Lf):decide ([gU a]=[qR (gU b)])=Vanetc.fitting a b:=by obtain⟨p,x⟩:=a;obtain⟨q,y⟩:=b;unfold Vanetc.fitting;rw[iG];cases p<;>cases q<;>simp[gU,qR,yi]
theorem aau{ls:List Lf}{x:Nat×Nat}{a b:Lf}(h1:ls[x.1]? =some a)(h2:ls[x.2]? =some b):fits ls x=Vanetc.fitting a b:=by unfold fits;rw[h1,h2]
theorem Ay{ax:List (Key×V)}{met:List Nat}(h:ax.map (·.1)=met.map λ(n:Nat)=>(Sum.inl (n:Int):Key))(n:Nat):(gA ax (Sum.inl (n:Int))).isSome=decide (n∈met):=by
 cases e:gA ax (Sum.inl (n:Int))with
 |none=>have:=UY e;rw[h]at this;symm;exact decide_eq_false λc=>this (c9.mpr ⟨n,c,U⟩)
 |some v=>
  have:=UZ e;rw[h]at this;symm;refine decide_eq_true ?_;obtain⟨m,hm,e2⟩:=c9.mp this;have:(m:Int)=(n:Int):=by injection e2
  have:m=n:=by omega
  rw[<-this];exact hm
def aav:Sp:=λvs H Q _=>∃(lv kv:V) (ls:List Lf) (lk:List (Nat×Nat)),vs=[lv,kv]/\ cT H lv (ls.map gU)/\ cS d6 H kv lk/\ (∀y∈lk,y.1<y.2)/\ lk.length<=4001/\ ∀H',aa H H'->Q (.bl (paired ls lk)) H'
theorem aaw(T:Txt K mg A):Gd P w K mg base 2 A.EG A.Mq ["leaves","links"] aav:=by
 refine T.X'.go (N:=["leaves","links","met","pair"]) ?_;rintro aC A' outer s H vs Q E hr nd ⟨lv,kv,ls,lk,rfl,⟨la,lvs,rfl,jk,xi⟩,⟨ka,kvs0,rfl,xj,xk⟩,aU,hlk,q⟩;refine⟨_,(af (aN 2 nd Uw)
  (af (eZ PassesOwn.never U (eE (pv 1)) (cx 3 nd) (af (a9 (PW.pt (kU (aR SO (cW (pv 3) ak) (dw T.c6 (pv 0))) (kU (JU (KZ (zI hr) (cW (pv 3) ak) (pv 2))) (oB (JU (KZ (zI hr) (cW (pv 3) ak) (pv 2))))))) (ag (aB iP)) bt)
  (af (a9 (aR (Di hr.units) (aS (aj (aT (pv 0) (cW (pv 3) ak)))) (aP hr (wR T) T.wJ (aj (aS (aj (aT (pv 0) (cW (pv 3) ak))))))) (ag (aB iP)) bt)
  (af (K0 (zI hr) (pv 2) (cW (pv 3) ak) iP U)
  (ag (K0 (zI hr) (pv 2) (cW (pv 3) ak) iP U))))))
  (ag (aB (lq cj (pY UX (by rfl) T.c6 PySem.boot_len (aj (pv 2))) (dw T.c6 (pv 0))))))),?_⟩
 have gw:=ck xi;rw[aI]at gw;have Gu:=ck xk;unfold paired at q;intro d hd;have s0:=aa.new (o:= .dK []) hd;refine⟨_,U,ka,U,⟨_,ab.of (s0 _ _ xj)⟩,gL (xs:=kvs0) (λi σ' H'=>∃(ax:List (Key×V)) (met:List Nat) (w:Option V),σ'=[some (.ref la),some (.ref ka),some (.ref d),w]/\ aa H H'/\ H' d=some (.dK ax)/\ ax.map (·.1)=met.map (λ(n:Nat)=>(Sum.inl (n:Int):Key))/\ met.length<=2*i/\ jU ls [] lk=jU ls met (lk.drop i))
  ⟨[],[],none,U,s0,ae,U,aM _,by rw[kL]⟩ (λi σ' H' _ ⟨_,_,_,_,sm,_⟩=>ab.of (sm _ _ xj)) ?_ ?_⟩
 ·rintro i y σ' H' hy ⟨ax,met,w,rfl,sm,hk,r_,F2,bP⟩
  obtain⟨pr,bh,g,rfl,hg⟩:=fB xk hy;have hi:=dm bh;have sf:lk.drop i=pr::lk.drop (i+1):=by have e:lk[i]=pr:=(cP.mp bh).2;rw[jP hi,e]
  rw[sf]at bP;have w9:jU ls met (pr::lk.drop (i+1))=if ls.length<=pr.2\/pr.1∈met\/pr.2∈met then none else if fits ls pr=true then jU ls (met++[pr.1,pr.2]) (lk.drop (i+1))else none:=rfl;rw[w9]at bP;have ku:=sm _ _ hg;have Gv:=sm _ _ jk;have bad:jU ls [] lk=none->∀H2,aa H H2->Q (.bl false) H2:=λe H2 s2=>by have:=q H2 s2;rw[e]at this;exact this
  have kl:ax.length=met.length:=by have:=congrArg List.length r_;simpa using this
  refine⟨_,U,_,_,_,_,U,U,bz.of ku,fO,_,U,la,_,U, .inl (ab.of Gv),_,_,U,U,_,U,b9 (λh=>?_) (λh=>?_)⟩
  ·have e:ls.length<=pr.2:=by have:=of_decide_eq_true h;omega
   rw[if_pos (.inl e)]at bP;exact aJ (bad bP _ sm)
  ·have e:¬ls.length<=pr.2:=λc=>h (decide_eq_true (by omega))
   have ae8:=aU pr (bC bh);refine⟨_,U,_,_,_,_,U,U,bz.of ku,bT,_,U,d,_,U,p8.k (k:=Sum.inl (pr.1:Int)) hk,_,U,?_⟩;rw[Ay r_];refine b9 (λh=>?_) (λh=>?_)
   ·have e1:=of_decide_eq_true h
    rw[if_pos (.inr (.inl e1))]at bP;exact aJ (bad bP _ sm)
   ·have e1:¬pr.1∈met:=λc=>h (decide_eq_true c)
    refine⟨_,U,_,_,_,_,U,U,bz.of ku,fO,_,U,d,_,U,p8.k (k:=Sum.inl (pr.2:Int)) hk,_,U,?_⟩;rw[Ay r_];refine b9 (λh=>?_) (λh=>?_)
    ·have e2:=of_decide_eq_true h
     rw[if_pos (.inr (.inr e2))]at bP;exact bad bP _ sm
    ·have e2:¬pr.2∈met:=λc=>h (decide_eq_true c)
     rw[if_neg (by rintro(c|c|c);exact e c;exact e1 c;exact e2 c)]at bP;obtain⟨a,hA⟩:∃a,ls[pr.1]? =some a:=⟨_,br (by omega)⟩
     obtain⟨b,hB⟩:∃b,ls[pr.2]? =some b:=⟨_,br (by omega)⟩
     obtain⟨va,KP,rva⟩:=oR xi (show(ls.map gU)[pr.1]? =some (gU a) by rw[ez,hA];rfl);obtain⟨vb,uG,rvb⟩:=oR xi (show(ls.map gU)[pr.2]? =some (gU b) by rw[ez,hB];rfl);rw[aau hA hB]at bP;refine⟨_,U,_,U,_,_,_,_,U,U,bz.of ku,bT,_,_,_,_,U,U,ab.of Gv,bH KP,cu,λm1 vf=>?_⟩;have s1:=aa.new (o:= .lst [va]) vf;refine⟨_,U,_,U,_,_,_,_,U,U,bz.of (s1 _ _ ku),fO,_,_,_,_,U,U,ab.of (s1 _ _ Gv),bH uG,cu,λm2 om=>?_⟩;have s2:=aa.new (o:= .lst [vb]) om;have bQ:=s1.trans s2;have M1:cT (Wo (λ_=>False) (upd (upd H' m1 (.lst [va])) m2 (.lst [vb]))) (.ref m2) [gU b]:=by rw[mn];exact⟨m2,[vb],U,ae,qc (bZ.mono _ _ _ _ (sm.trans bQ) rvb)⟩
     refine⟨(λ_=>False), .ref m2,[gU b],U,M1,λz hz=>?_,by simp,Hid.none _,λv3 H3 s3 h3=>?_⟩
     ·simp at hz;rw[hz];unfold gU;simp only;split<;>omega
     rw[mn]at h3;have cU:=bQ.trans s3;have Ux:cT H3 (.ref m1) [gU a]:=⟨m1,[va],U,s3 _ _ (s2 _ _ ae),qc (bZ.mono _ _ _ _ (sm.trans cU) rva)⟩
     refine⟨_,_,qt Ux,qt h3,(qr _).shaped (by decide),(qr _).shaped (by decide),_,U,?_⟩;have ev:PyData.eqv (nM [gU a]) (nM ([gU b].map qR))=Vanetc.fitting a b:=(F6 _ _).trans (aat a b);rw[ev];cases Oy:Vanetc.fitting a b with
     |false=>rw[Oy]at bP;rw[if_neg (by simp)]at bP;exact aJ (bad bP _ (sm.trans cU))
     |true=>
      rw[Oy]at bP;rw[if_pos U]at bP;refine aA ?_;have hk3:=cU _ _ hk;have v1:gA ax (Sum.inl (pr.1:Int))=none:=by have:=Ay r_ pr.1;rw[decide_eq_false e1]at this;exact HI.mp (by rw[this];simp)
      have Oz:(ax++[((Sum.inl (pr.1:Int):Key),V.bl true)]).map (λ(kv:Key×V)=>kv.1)=(met++[pr.1]).map (λ(n:Nat)=>(Sum.inl (n:Int):Key)):=by rw[gD,gD,r_];rfl
      have v2:gA (ax++[(Sum.inl (pr.1:Int),V.bl true)]) (Sum.inl (pr.2:Int))=none:=by have:=Ay Oz pr.2;rw[decide_eq_false (by simp;exact⟨e2,by omega⟩)]at this;exact HI.mp (by rw[this];simp)
      have hgd:g≠d:=bS hg hd;refine⟨_,U,_,U,_,_,_,_,U,U,bz.of (cU _ _ ku),bT,d,_,U,p9.k (k:=Sum.inl (pr.1:Int)) hk3 (dk (by omega)),?_⟩;rw[KR _ v1];refine⟨_,U,_,U,_,_,_,_,U,U,bz.of (by rw[aD hgd];exact cU _ _ ku),fO,d,_,U,p9.k (k:=Sum.inl (pr.2:Int)) ae (dk (by simp;omega)),?_⟩;rw[KR _ v2,jz];refine⟨_,met++[pr.1,pr.2],_,U,c5 (sm.trans cU) hd,ae,?_,by simp;omega,bP⟩;rw[gD,Oz];simp
 ·rintro σ' H' ⟨ax,met,w,rfl,sm,hk,r_,F2,bP⟩
  rw[Gu,lG]at bP;have e:jU ls [] lk=some met:=bP;have kl:ax.length=met.length:=by have:=congrArg List.length r_;simpa using this
  refine⟨_,U,d,_,U,hk,_,U,la,_,U, .inl (ab.of (sm _ _ jk)),U,?_⟩;have:=q H' sm;rw[e]at this;rw[jH,kl,gw];exact this
def o_(H:Hp)(v:V)(b:Bool):Prop:=v= .bl b
theorem o_.mono:eP o_:=λ_ _ _ _ _ h=>h
theorem Az{H:Hp}:∀{vs:List V} {bs:List Bool},Paired (o_ H) vs bs->vs=bs.map V.bl
 |_,_, .nil=>rfl
 |_,_, .cons r t=>by rw[da,<-Az t];rw[show _=_ from r]
def cJ(x:P3):List Lf:=(bE x).flatMap Vaneta.leaves
theorem Gw(l:List Formula):uF l=(l.flatMap Vaneta.leaves).map gU:=by unfold uF;rw[Bt];congr 1;funext F;exact u_ F
def refusal:Option P3->Int
 |none=> -1
 |some x=>if(bE x).all inBounds=false then-6 else if 120<(cJ x).length then-5 else if paired (cJ x) x.2.2=false then-3 else 0
def aaC(A:aE):Sp:=λvs H Q _=>∃(v:V) (o:Option P3),vs=[v]/\ gP (c7 A) H v o/\ (∀x,o=some x->qx x)/\ ∀H',aa H H'->Q (.int (refusal o)) H'
theorem OA(T:Txt K mg A):Gd P w K mg base 4 A.EF A.Mp ["parts"] (aaC A):=by
 refine T.X_.go (N:=["parts","formula","leaves"]) ?_;rintro aC A' outer s H vs Q E hr nd ⟨v,o,rfl,hv,aK,q⟩;refine⟨_,(af (a9 (aR rK (pv 0) i_) (ag (aB (aW T.VU))) bt)
  (af (a9 (ij (dC (pY (Dg U) (by rfl) T.Fz DL (aj (mj U nd (eE (dO hr (Gs T) T.gN T.FI (pv 0))) (jF (own:=[("formula",1)]) (by show iS ["parts","formula","leaves"] (d5 (top 70)) _ _=true;decide+kernel)) (λ_ _ _ _ _=>(cx 1 nd)) (λ_ _ _ _ _=>oN) (λ_ _ _ _ _=>(aP hr (Zj T) T.Wl (aj (pv 1))))))))) (ag (aB (aW T.VX))) bt)
  (af (aN 2 nd (dO hr (Ov T) T.gN T.NF (pv 0)))
  (af (a9 (aR rJ (dw T.c6 (pv 2)) (aW T.VT)) (ag (aB (aW T.VW))) bt)
  (af (a9 (ij (dC (aP hr (aaw T) T.WK (aY (pv 2) (ao (pv 0)))))) (ag (aB (aW T.VV))) bt)
  (ag (aB ak))))))),?_⟩
 cases o with
 |none=>have hv:v= .aO:=hv;subst hv;exact⟨_,U,U,_,U,aJ (q H (aa.refl _))⟩
 |some x=>
  have ok:=aK x U;have fW:c7 A H v x:=hv;have jj:c7 A (Wo (λ_=>False) H) v x:=by rw[mn];exact fW
  obtain⟨fok,flen⟩:=xh ok;obtain⟨p,dx,c,u,lv,rfl,hp,hc,OB,uD⟩:=id fW;have q:∀H',aa H H'->Q (.int (if(bE x).all inBounds=false then-6 else if 120<(cJ x).length then-5 else if paired (cJ x) x.2.2=false then-3 else 0)) H':=q;refine⟨_,U,U,_,U,aA ?_⟩;refine⟨_,U,p,dx,_,U,hp,U,(λ_=>False), .ref p,x,U,jj,ok,Hid.none _,λv1 H1 s1 h1=>?_⟩;rw[mn]at h1;obtain⟨ca,cs,rfl,fc,eT⟩:=h1;have bD:=ck eT;refine⟨ca,U,⟨_,ab.of fc⟩,λD hD=>oS (λ_=>False) o_ o_.mono (bE x) (λF=>some (inBounds F)) hD (Hid.none _) (by omega) (ab.of fc) bD ?_ ?_⟩
  ·intro i H2 y F hy hF s2 aH Ky Kn mx hn
   obtain⟨F',Gx,rF⟩:=fB eT hy;have e:F'=F:=ay (Gx.symm.trans hF);subst e;have okF:=fok F' (bC hF);refine⟨U,oX ⟨_,U,y,F',U,dj.mono _ _ _ _ s2 rF,cO okF.2 (by decide),λH3 s3=>mx _ _ _ U s3 U⟩⟩
  ·intro H2 acc s2 cH aH bh
   rw[sY]at bh;have eacc:=Az bh;subst eacc;have bQ:=s1.trans s2;refine⟨D,_,U,ab.of cH,_,U,?_⟩;have eall:((bE x).map inBounds).all id=(bE x).all inBounds:=by rw[List.all_map];rfl
   rw[eall];cases hb:(bE x).all inBounds with
   |false=>rw[hb]at q;exact aJ (by have:=q H2 bQ;rw[if_pos U]at this;exact this)
   |true=>
    rw[hb]at q;rw[if_neg (by simp)]at q;refine aA ?_;have Gy:c7 A (Wo (λ_=>False) H2) (.ref p) x:=by rw[mn];exact c7.mono _ _ _ _ bQ fW
    refine⟨_,U,p,dx,_,U,bQ _ _ hp,U,(λ_=>False), .ref p,x,U,Gy,ok,Hid.none _,λv3 H3 s3 h3=>?_⟩;rw[mn,Gw]at h3;have qu:cT H3 v3 ((cJ x).map gU):=h3;obtain⟨la,lvs,rfl,jk,xi⟩:=h3;have gw:=ck xi;rw[aI]at gw;have gw:lvs.length=(cJ x).length:=gw;have cU:=bQ.trans s3;refine⟨_,U,la,_,U, .inl (ab.of jk),_,_,U,U,_,U,b9 (λh=>?_) (λh=>?_)⟩
    ·have aU:120<(cJ x).length:=by have:=of_decide_eq_true h;omega
     rw[if_pos aU]at q;exact q H3 cU
    ·have aU:¬120<(cJ x).length:=λz=>h (decide_eq_true (by omega))
     rw[if_neg aU]at q;refine⟨_,U,_,U,_,_,_,_,_,U,cU _ _ hp,T.gN,T.Ac,U, .ref la,lv,cJ x,x.2.2,U,qu,cS.mono d6.mono _ _ _ _ cU uD,ok.lt,ok.ll,λH4 s4=>⟨_,U,?_⟩⟩;cases OC:paired (cJ x) x.2.2 with
     |false=>rw[OC]at q;exact aJ (by have:=q H4 (cU.trans s4);rw[if_pos U]at this;exact this)
     |true=>rw[OC]at q;exact aA (by have:=q H4 (cU.trans s4);rw[if_neg (by simp)]at this;exact this)
theorem aaD:codes ", "=([44,32]:Text).map bI:=by decide+kernel
theorem aaE:codes " ; "=([32,59,32]:Text).map bI:=by decide+kernel
def sj(l:List Formula):Prop:=l.length<=20/\ ∀A∈l,multiplicative A=true/\ nm (enc A)/\ nodes A<=200
theorem aaF{F:Formula}(h:multiplicative F=true/\ nm (enc F)/\ nodes F<=200):(form F).length<=3400:=by have h1:=JN h.1;have h2:=yY h.2.1;rw[bJ]at h2;omega
theorem AB{l:List Nat}{b:Nat}(h:∀x∈l,x<=b):l.sum<=l.length*b:=by
 induction l with
 |nil=>simp
 |cons a r ih=>have:=ih λx hx=>h x (by simp[hx]);have:=h a (by simp);rw[yc,aX,Nat.add_mul];omega
def aaG:Sp:=λvs H Q _=>∃(v:V) (l:List Formula),vs=[v]/\ cS dj H v l/\ sj l/\ iV H Q ((Vaneta.sequentForm l).map bI)
theorem OD{l:List Formula}(h:sj l):((l.map form).map List.length).sum<=20*3400:=by
 refine cO (AB (b:=3400) λx hx=>?_) ?_
 ·obtain⟨t,ht,rfl⟩:=c9.mp hx
  obtain⟨F,hF,rfl⟩:=c9.mp ht;exact aaF (h.2 F hF)
 ·rw[aI,aI]
  exact Bz _ h.1
theorem OE(T:Txt K mg A):Gd P w K mg base 4 A.EI A.Ms ["formulas"] aaG:=by
 refine T.Yb.go (N:=["formulas","formula"]) ?_;rintro aC A' outer s H vs Q E hr nd ⟨v,l,rfl,⟨ca,cs,rfl,fc,eT⟩,hb,q⟩;refine⟨_,(ag (aB (aP hr (F3 T) T.FG (aY (aP hr (wN T) T.wI (aj JT)) (mj U nd (eE (pv 0)) (jF (own:=[("formula",1)]) (by show iS ["formulas","formula"] (d5 (top 73)) _ _=true;decide+kernel)) (λ_ _ _ _ _=>(cx 1 nd)) (λ_ _ _ _ _=>oN) (λ_ _ _ _ _=>(aP hr (Zq T) T.Wm (aj (pv 1))))))))),?_⟩;have bD:=ck eT;have hl:=hb.1;refine⟨", ",U,(by decide),λH1 a s1 hn ha=>?_⟩;rw[aaD]at ha;refine⟨_,U,ca,U,⟨_,ab.of (s1 _ _ fc)⟩,λD hD=>oS (λ_=>False) bG bG.mono l (λF=>some (form F)) hD (Hid.none _) (by omega) (ab.of (s1 _ _ fc)) bD ?_ ?_⟩
 ·intro i H2 y F hy hF s2 aH Ky Kn mx zm
  obtain⟨F',Gx,rF⟩:=fB eT hy;have e:F'=F:=ay (Gx.symm.trans hF);subst e;have okF:=hb.2 F' (bC hF);refine⟨U,oX ⟨_,U,y,F',U,dj.mono _ _ _ _ (s1.trans s2) rF,cO okF.2.2 (by decide),okF.2.1,λb H3 s3 OF hb3=>mx _ _ _ U s3 ⟨b,U,?_⟩⟩⟩;rw[cR (aH.not OF)];exact hb3
 ·intro H2 acc s2 cH aH bh
  rw[sY]at bh;have bQ:=s1.trans s2;refine⟨.ref a, .ref D,[44,32],l.map form,U,⟨a,U,s2 _ _ ha⟩,⟨D,acc,U,cH,bO (λ_ _ r=>bG.mono _ _ _ _ (bB _ _) r) bh⟩,?_,λz H3 s3 qy hz=>?_⟩
  ·have:=OD hb
   rw[aI];show l.length*(2+1)+_<=_;omega
  ·rw[<-yl]at hz
   exact q z H3 (bQ.trans s3) (bQ.free qy) hz
theorem OG:∀n:Nat,n<120->codes (Str.ofString (toString (n:Int)))=(decimal n).map bI:=by decide+kernel
theorem qz:∀n:Nat,n<120->(decimal n).length<=3:=by decide+kernel
def fD(x:Nat×Nat):Text:=decimal x.1++45::decimal x.2
def aaI:Sp:=λvs H Q _=>∃(v:V) (l:List (Nat×Nat)),vs=[v]/\ cS d6 H v l/\ l.length<=4001/\ (∀x∈l,x.1<120/\ x.2<120)/\ iV H Q ((df [32] (l.map fD)).map bI)
theorem aaJ(T:Txt K mg A):Gd P w K mg base 2 A.EJ A.Mt ["links"] aaI:=by
 refine T.Yc.go (N:=["links","pair"]) ?_;rintro aC A' outer s H vs Q E hr nd ⟨v,l,rfl,⟨ca,cs,rfl,fc,eT⟩,hl,aU,q⟩;refine⟨_,(ag (aB (aP hr (F3 T) T.FG (aY (aS (aj (aW T.wD))) (mj U nd (eE (pv 0)) (jF (own:=[("pair",1)]) (by show iS ["links","pair"] (d5 (top 74)) _ _=true;decide+kernel)) (λ_ _ _ _ _=>(cx 1 nd)) (λ_ _ _ _ _=>oN) (λ_ _ _ _ _=>(b_ gz (b_ gz (aP hr (wN T) T.wI (aj (oG Kb (by rfl) T.Nj Lk (aj (ug (K:=K) U (pv 1) ak))))) (aS (aj (aW T.rT)))) (aP hr (wN T) T.wI (aj (oG Kb (by rfl) T.Nj Lk (aj (ug (K:=K) U (pv 1) ak)))))))))))),?_⟩;have bD:=ck eT;refine⟨cu,λa ha0=>?_⟩;have s1:=aa.new (o:= .lst [V.int 32]) ha0;refine⟨_,U,ca,U,⟨_,ab.of (s1 _ _ fc)⟩,λD hD=>oS (λ_=>False) bG bG.mono l (λx=>some (fD x)) hD (Hid.none _) (by omega) (ab.of (s1 _ _ fc)) bD ?_ ?_⟩
 ·intro i H2 y x hy hx s2 aH Ky Kn mx zm
  obtain⟨x',AD,g,rfl,hg⟩:=fB eT hy;have e:x'=x:=ay (AD.symm.trans hx);subst e;have qA:=aU x' (bC hx);have kx:=s2 _ _ (s1 _ _ hg);have d1:=qz x'.1 qA.1;have d2:=qz x'.2 qA.2;have c1:=OG x'.1 qA.1;have c2:=OG x'.2 qA.2;have lg:∀n:Nat,n<120->(n:Int).natAbs.log2<1920:=by decide+kernel
  have cz:∀n:Nat,n<120->(Str.ofString (toString (n:Int))).cps.size<=1000:=by decide+kernel
  refine⟨U,oX ⟨_,U,_,_,_,_,U,U,bz.of kx,bT,_,U,lg _ qA.1,_,U,cz _ qA.1,λH3 b s3 OF hb=>?_⟩⟩;refine⟨cu,λm hm=>?_⟩;have s4:=aa.new (o:= .lst [V.int 45]) hm;rw[c1]at hb;refine⟨b,m,_,_,U,U,s4 _ _ hb,ae,fC (by simp;omega),λr hr=>?_⟩;have s5:=aa.new (o:= .lst ((decimal x'.1).map bI++[V.int 45])) hr;have OH:=(s3.trans s4).trans s5;refine⟨_,U,_,_,_,_,U,U,bz.of (OH _ _ kx),fO,_,U,lg _ qA.2,_,U,cz _ qA.2,λH6 f s6 hf0 hf=>?_⟩;rw[c2]at hf;refine⟨r,f,_,_,U,U,s6 _ _ ae,hf,fC (by simp;omega),λz hz=>?_⟩;have s7:=aa.new (o:= .lst (((decimal x'.1).map bI++[V.int 45])++(decimal x'.2).map bI)) hz;have OI:=OH.trans s6;refine mx _ _ _ U (OI.trans s7) ⟨z,U,?_⟩;rw[e9 (aH.mono OI) hz];unfold fD;simp[bI]
 ·intro H2 acc s2 cH aH bh
  rw[sY]at bh;have bQ:=s1.trans s2;refine⟨.ref a, .ref D,[32],l.map fD,U,⟨a,U,s2 _ _ ae⟩,⟨D,acc,U,cH,bO (λ_ _ r=>bG.mono _ _ _ _ (bB _ _) r) bh⟩,?_,λz H3 s3 qy hz=>?_⟩
  ·have h1:((l.map fD).map List.length).sum<=(l.map fD).length*7:=by
    refine cO (AB (b:=7) λx hx=>?_) (by rw[aI];exact aM _);obtain⟨t,ht,rfl⟩:=c9.mp hx;obtain⟨y,hy,rfl⟩:=c9.mp ht;have h1:=qz y.1 (aU y hy).1;have h2:=qz y.2 (aU y hy).2;unfold fD;simp;omega
   rw[aI]at h1⊢;show l.length*(1+1)+_<=_;omega
  ·exact q z H3 (bQ.trans s3) (bQ.free qy) hz
def sk(x:P3):Text:=df [32,59,32] [Vaneta.sequentForm x.1,Vaneta.sequentForm x.2.1,df [32] (x.2.2.map fD)]
def aaL(A:aE):Sp:=λvs H Q _=>∃(v:V) (x:P3),vs=[v]/\ c7 A H v x/\ sj x.1/\ sj x.2.1/\ x.2.2.length<=4001/\ (∀y∈x.2.2,y.1<120/\ y.2<120)/\ iV H Q ((sk x).map bI)
theorem AE{l:List Formula}(h:sj l):(Vaneta.sequentForm l).length<=100000:=by rw[yl];have h1:=uu [44,32] (l.map form);have h2:=OD h;have h3:=h.1;rw[aI]at h1;have h1:(df [44,32] (l.map form)).length<=l.length*(2+1)+((l.map form).map List.length).sum:=h1;omega
theorem OJ{l:List (Nat×Nat)}(hl:l.length<=4001)(h:∀y∈l,y.1<120/\ y.2<120):(df [32] (l.map fD)).length<=100000:=by
 have h1:=uu [32] (l.map fD);have h2:((l.map fD).map List.length).sum<=(l.map fD).length*7:=by refine cO (AB (b:=7) λx hx=>?_) (by rw[aI];exact aM _);obtain⟨t,ht,rfl⟩:=c9.mp hx;obtain⟨y,hy,rfl⟩:=c9.mp ht;have h1:=qz y.1 (h y hy).1;have h2:=qz y.2 (h y hy).2;unfold fD;simp;omega
 rw[aI]at h1 h2;have h1:(df [32] (l.map fD)).length<=l.length*(1+1)+((l.map fD).map List.length).sum:=h1;omega
theorem aaM(T:Txt K mg A):Gd P w K mg base 5 A.EH A.Mr ["parts"] (aaL A):=by refine T.Ya.go (N:=["parts"]) ?_;rintro aC A' outer s H vs Q E hr nd ⟨v,x,rfl,⟨p,dx,c,u,lv,rfl,hp,hc,OB,uD⟩,b1,b2,hl,aU,q⟩;refine⟨_,(ag (aB (aP hr (F3 T) T.FG (aY (aP hr (wN T) T.wI (aj JT)) (aS (fM (aP hr (OE T) T.NK (aj (ao (pv 0)))) (aY (aP hr (OE T) T.NK (aj (ao (pv 0)))) (aP hr (aaJ T) T.WM (aj (ao (pv 0))))))))))),?_⟩;refine⟨" ; ",U,(by decide),λH1 a s1 hn ha=>?_⟩;rw[aaE]at ha;refine⟨_,U,_,_,_,_,_,U,s1 _ _ hp,T.gN,T.uk,U,c,x.1,U,cS.mono dj.mono _ _ _ _ s1 hc,b1,λd1 H2 s2 _ w_=>?_⟩;have bQ:=s1.trans s2;refine⟨_,U,_,_,_,_,_,U,bQ _ _ hp,T.gN,T.FV,U,u,x.2.1,U,cS.mono dj.mono _ _ _ _ bQ OB,b2,λd2 H3 s3 _ hd2=>?_⟩;have cU:=bQ.trans s3;refine⟨_,U,_,_,_,_,_,U,cU _ _ hp,T.gN,T.Ac,U,lv,x.2.2,U,cS.mono d6.mono _ _ _ _ cU uD,hl,aU,λd3 H4 s4 _ hd3=>⟨wO,λm hm=>?_⟩⟩;have mE:=cU.trans s4;have s5:=aa.new (o:= .lst [.ref d1, .ref d2, .ref d3]) hm;refine⟨.ref a, .ref m,[32,59,32],[_,_,_],U,⟨a,U,s5 _ _ (s4 _ _ (s3 _ _ (s2 _ _ ha)))⟩,⟨m,_,U,ae, .cons ⟨d1,U,s5 _ _ (s4 _ _ (s3 _ _ w_))⟩ (.cons ⟨d2,U,s5 _ _ (s4 _ _ hd2)⟩ (.cons ⟨d3,U,s5 _ _ hd3⟩ .nil))⟩,?_,λz H6 s6 qy hz=>q z H6 ((mE.trans s5).trans s6) ((mE.trans s5).free qy) hz⟩;have h1:=AE b1;have h2:=AE b2;have h3:=OJ hl aU;simp only[da,pG,yc,List.sum_nil,aX,kI];omega
structure eK where
 p:Addr
 dx:Addr
 l0:Addr
 l1:Addr
 l2:Addr
 l3:Addr
 l4:Addr
 l5:Addr
 l6:Addr
 l7:Addr
 l8:Addr
def eK.L(a:eK):List Addr:=[a.l0,a.l1,a.l2,a.l3,a.l4,a.l5,a.l6,a.l7,a.l8]
def OK(a:eK)(jc cc:Int):List (Str×V):=[("nodes", .ref a.l0),("owners", .ref a.l1),("below", .ref a.l2),("sides", .ref a.l3),("seconds", .ref a.l4),("switches", .ref a.l5),("partners", .ref a.l6),("turns", .ref a.l7),("junction_count", .int jc),("conclusion_count", .int cc),("roots", .ref a.l8)]
structure dE(A:aE)(H:Hp)(a:eK)(cs:List (List V))(jc cc:Int):Prop where
 obj:H a.p=some (.ins A.bM a.dx (OK a jc cc))
 at_:∀(i:Nat) (x:Addr),a.L[i]? =some x->∃xs,cs[i]? =some xs/\ H x=some (.lst xs)
 nd:a.L.Nodup
theorem dE.get{A:aE}{H:Hp}{a:eK}{cs:List (List V)}{jc cc:Int}(h:dE A H a cs jc cc)(i:Nat){x:Addr}{xs:List V}(hx:a.L[i]? =some x)(hc:cs[i]? =some xs):H x=some (.lst xs):=by obtain⟨ys,h1,h2⟩:=h.at_ i x hx;have e:xs=ys:=ay (hc.symm.trans h1);rw[e];exact h2
theorem dE.np{A:aE}{H:Hp}{a:eK}{cs:List (List V)}{jc cc:Int}(h:dE A H a cs jc cc){x:Addr}(hx:x∈a.L):x≠a.p:=by obtain⟨i,hi⟩:=jN.mp hx;obtain⟨ys,_,h2⟩:=h.at_ i x hi;exact ig h2 h.obj (by intro z;cases z)
theorem dE.mono{A:aE}{H H':Hp}{a:eK}{cs:List (List V)}{jc cc:Int}(h:dE A H a cs jc cc)(s:aa H H'):dE A H' a cs jc cc:=⟨s _ _ h.obj,λi x hx=>by obtain⟨ys,h1,h2⟩:=h.at_ i x hx;exact⟨ys,h1,s _ _ h2⟩,h.nd⟩
theorem dE.set{A:aE}{H:Hp}{a:eK}{cs:List (List V)}{jc cc:Int}(h:dE A H a cs jc cc)(i:Nat){x:Addr}(xs:List V)(hx:a.L[i]? =some x)(hi:i<cs.length):dE A (upd H x (.lst xs)) a (cs.set i xs) jc cc:=by
 refine⟨?_,λj y hy=>?_,h.nd⟩
 ·rw[aD (Ne.symm (h.np (bC hx)))];exact h.obj
 ·by_cases iH:i=j
  ·subst iH
   have e:x=y:=ay (hx.symm.trans hy);subst e;exact⟨xs,by rw[n0 hi],ae⟩
  ·obtain⟨ys,h1,h2⟩:=h.at_ j y hy
   refine⟨ys,by rw[mU iH];exact h1,?_⟩;rw[aD]
   ·exact h2
   ·intro e
    subst e;exact iH (U0 h.nd hx hy)
theorem dE.jcs{A:aE}{H:Hp}{a:eK}{cs:List (List V)}{jc cc:Int}(h:dE A H a cs jc cc)(OL:Int):dE A (upd H a.p (.ins A.bM a.dx (OK a OL cc))) a cs OL cc:=by refine⟨ae,λj y hy=>?_,h.nd⟩;obtain⟨ys,h1,h2⟩:=h.at_ j y hy;exact⟨ys,h1,by rw[aD (h.np (bC hy))];exact h2⟩
def bU(a:eK)(H H':Hp):Prop:=∀b o,H b=some o->b≠a.p->b∉a.L->H' b=some o
def dZ(P:Addr->Prop)(a:eK):Addr->Prop:=λb=>P b\/b=a.p\/b∈a.L
section
variable{a:eK}{H H1 H2:Hp}{P:Addr->Prop}
theorem bU.refl:bU a H H:=λ_ _ e _ _=>e
theorem bU.trans(x:bU a H H1)(y:bU a H1 H2):bU a H H2:=λb o e h1 h2=>y b o (x b o e h1 h2) h1 h2
theorem bU.same(x:bU a H H1)(y:aa H1 H2):bU a H H2:=λb o e h1 h2=>y b o (x b o e h1 h2)
theorem bU.of(y:aa H H1):bU a H H1:=λb o e h1 h2=>y b o e
theorem bU.ul{o:HO}{x:Addr}(h:bU a H H1)(i:Nat)(hx:a.L[i]? =some x):bU a H (upd H1 x o):=λb q e h1 h2=>by rw[aD λc=>h2 (by rw[c];exact bC hx)];exact h b q e h1 h2
theorem bU.up{o:HO}(h:bU a H H1):bU a H (upd H1 a.p o):=λb q e h1 h2=>by rw[aD h1];exact h b q e h1 h2
theorem bU.wo(h:bU a H H1):aa (Wo (dZ P a) H) (Wo (dZ P a) H1):=qd λb o e hb=>h b o e (λc=>hb (.inr (.inl c))) (λc=>hb (.inr (.inr c)))
end
theorem dE.aH{A:aE}{H:Hp}{a:eK}{cs:List (List V)}{jc cc:Int}{P:Addr->Prop}(h:dE A H a cs jc cc)(hP:Hid P H):Hid (dZ P a) H:=λb hb e=>by
 rcases hb with hb|rfl|hb
 ·exact hP b hb e
 ·rw[h.obj]at e;cases e
 ·obtain⟨i,hi⟩:=jN.mp hb
  obtain⟨ys,_,h2⟩:=h.at_ i b hi;rw[h2]at e;cases e
theorem bU.aH{A:aE}{H H':Hp}{a:eK}{cs:List (List V)}{jc cc:Int}{P:Addr->Prop}(k:bU a H H')(hP:Hid P H)(h:dE A H' a cs jc cc):Hid P H':=λb hb e=>by
 by_cases h1:b=a.p
 ·subst h1;rw[h.obj]at e;cases e
 ·by_cases h2:b∈a.L
  ·obtain⟨i,hi⟩:=jN.mp h2
   obtain⟨ys,_,h3⟩:=h.at_ i b hi;rw[h3]at e;cases e
  ·cases q:H b with
   |none=>exact hP b hb q
   |some o=>rw[k b o q h1 h2]at e;cases e
def aaP(A:aE):Sp:=λvs H Q _=>∃(a:eK) (nv:V) (x:Node) (b sd:Int) (nn ow be si se sw pa tu ro:List V) (jc cc:Int),vs=[.ref a.p,nv, .int b, .int sd]/\ dE A H a [nn,ow,be,si,se,sw,pa,tu,ro] jc cc/\
 (∃m u,nv= .ref m/\ H m=some (.tup [.int (x.1:Int),u])/\ m≠a.p/\ m∉a.L)/\ x.1<4/\ (nn.length<=50000/\ be.length<=50000/\ si.length<=50000/\ se.length<=50000/\ sw.length<=50000/\ pa.length<=50000/\ tu.length<=50000)/\
 ∀H',bU a H H'->dE A H' a [nn++[nv],ow,be++[.int b],si++[.int sd],se++[.int (-1)],sw++[.int (if bR x=true then jc else-1)],pa++[.int (-1)],tu++[.int (-1)],ro] (if bR x=true then jc+1 else jc) cc->Q .aO H'
theorem aaQ(T:Txt K mg A):Gd P w K mg base 2 A.ER A.MA ["self","node","junction","side"] (aaP A):=by
 refine T.Yj.go (N:=["self","node","junction","side"]) ?_;rintro aC A' outer s H vs Q E hr nd ⟨a,nv,x,b,sd,nn,ow,be,si,se,sw,pa,tu,ro,jc,cc,rfl,S0,⟨m,u,rfl,hm,m1,m2⟩,hx4,⟨b1,b2,b3,b4,b5,b6,b7⟩,q⟩;refine⟨_,(af (bF (dD (ao (pv 0)) (pv 1)))
  (af (bF (dD (ao (pv 0)) (pv 2)))
  (af (bF (dD (ao (pv 0)) (pv 3)))
  (af (bF (dD (ao (pv 0)) (il ip ak)))
  (af (bF (dD (ao (pv 0)) (il ip ak)))
  (af (bF (dD (ao (pv 0)) (il ip ak)))
  (ag (a9 (dC (aP hr (mw T) T.mq (aj (pv 1)))) (af (bF (dD (ao (pv 0)) (ao (pv 0))))
  (ag (CZ (pv 0) ak C0))) (ag (bF (dD (ao (pv 0)) (il ip ak)))))))))))),?_⟩
 refine⟨_,U,_,_,_,_,_,U,S0.obj,T.aF,T.ki,U, .inl ⟨U,_,ab.of (S0.get 0 U U)⟩,_,U,a.l0,_,_,U,U,S0.get 0 U U,dk (by omega),?_⟩;have S1:=S0.set 0 (x:=a.l0) (nn++[.ref m]) U (by simp);have k1:bU a H _:=bU.refl.ul (o:= .lst (nn++[.ref m])) (x:=a.l0) 0 U;generalize upd H a.l0 (.lst (nn++[.ref m]))=H1 at S1 k1⊢;refine⟨_,U,_,_,_,_,_,U,S1.obj,T.aF,T.ql,U, .inl ⟨U,_,ab.of (S1.get 2 U U)⟩,_,U,a.l2,_,_,U,U,S1.get 2 U U,dk (by omega),?_⟩;have S2:=S1.set 2 (x:=a.l2) (be++[.int b]) U (by simp);have k2:bU a H _:=k1.ul (o:= .lst (be++[.int b])) (x:=a.l2) 2 U;generalize upd H1 a.l2 (.lst (be++[.int b]))=H2 at S2 k2⊢;refine⟨_,U,_,_,_,_,_,U,S2.obj,T.aF,T.wK,U, .inl ⟨U,_,ab.of (S2.get 3 U U)⟩,_,U,a.l3,_,_,U,U,S2.get 3 U U,dk (by omega),?_⟩;have S3:=S2.set 3 (x:=a.l3) (si++[.int sd]) U (by simp);have k3:bU a H _:=k2.ul (o:= .lst (si++[.int sd])) (x:=a.l3) 3 U;generalize upd H2 a.l3 (.lst (si++[.int sd]))=H3 at S3 k3⊢;refine⟨_,U,_,_,_,_,_,U,S3.obj,T.aF,T.Ad,U, .inl ⟨U,_,ab.of (S3.get 4 U U)⟩,_,U,a.l4,_,_,U,U,S3.get 4 U U,dk (by omega),?_⟩;have S4:=S3.set 4 (x:=a.l4) (se++[.int (-1)]) U (by simp);have k4:bU a H _:=k3.ul (o:= .lst (se++[.int (-1)])) (x:=a.l4) 4 U;generalize upd H3 a.l4 (.lst (se++[.int (-1)]))=H4 at S4 k4⊢;refine⟨_,U,_,_,_,_,_,U,S4.obj,T.aF,T.oT,U, .inl ⟨U,_,ab.of (S4.get 6 U U)⟩,_,U,a.l6,_,_,U,U,S4.get 6 U U,dk (by omega),?_⟩;have S5:=S4.set 6 (x:=a.l6) (pa++[.int (-1)]) U (by simp);have k5:bU a H _:=k4.ul (o:= .lst (pa++[.int (-1)])) (x:=a.l6) 6 U;generalize upd H4 a.l6 (.lst (pa++[.int (-1)]))=H5 at S5 k5⊢;refine⟨_,U,_,_,_,_,_,U,S5.obj,T.aF,T.oU,U, .inl ⟨U,_,ab.of (S5.get 7 U U)⟩,_,U,a.l7,_,_,U,U,S5.get 7 U U,dk (by omega),?_⟩;have S6:=S5.set 7 (x:=a.l7) (tu++[.int (-1)]) U (by simp);have k6:bU a H _:=k5.ul (o:= .lst (tu++[.int (-1)])) (x:=a.l7) 7 U;generalize upd H5 a.l7 (.lst (tu++[.int (-1)]))=H6 at S6 k6⊢;refine⟨_,U,m,x.1,_,U,k6 _ _ hm m1 m2,_,U,?_⟩;rw[nG hx4];cases hj:bR x with
 |true=>rw[hj]at q;refine aJ ⟨_,U,_,_,_,_,_,U,S6.obj,T.aF,T.wL,U, .inl ⟨U,_,ab.of (S6.get 5 U U)⟩,_,U,_,_,_,_,_,U,S6.obj,T.aF,T.qm,U,a.l5,_,_,U,U,S6.get 5 U U,dk (by omega),?_⟩;have S7:=S6.set 5 (x:=a.l5) (sw++[.int jc]) U (by simp);have k7:bU a H _:=k6.ul (o:= .lst (sw++[.int jc])) (x:=a.l5) 5 U;generalize upd H6 a.l5 (.lst (sw++[.int jc]))=H7 at S7 k7⊢;exact⟨_,U,_,_,_,_,_,U,S7.obj,T.aF,T.qm,U,_,_,U,U,_,_,S7.obj,(by show 11<1000;decide),q _ k7.up (S7.jcs (jc+1))⟩
 |false=>rw[hj]at q;refine aA ⟨_,U,_,_,_,_,_,U,S6.obj,T.aF,T.wL,U, .inl ⟨U,_,ab.of (S6.get 5 U U)⟩,_,U,a.l5,_,_,U,U,S6.get 5 U U,dk (by omega),?_⟩;exact q _ (k6.ul (x:=a.l5) 5 U) (S6.set 5 (x:=a.l5) (sw++[.int (-1)]) U (by simp))
def nI(n:Nat):V:= .int (n:Int)
def so(H:Hp)(v:V)(n:Nat):Prop:=v=nI n
theorem so.mono:eP so:=λ_ _ _ _ _ h=>h
theorem Gz{H:Hp}:∀{vs:List V} {ns:List Nat},Paired (so H) vs ns->vs=ns.map nI
 |_,_, .nil=>rfl
 |_,_, .cons r t=>by rw[da,<-Gz t];rw[show _=_ from r]
theorem GA{α:Type}(Pr:α->Bool):∀(l:List α) (k:Nat) (m:List α),m.drop k=l->(List.range' k l.length).filterMap (λi=>m[i]?.bind λx=>if Pr x=true then some i else none)=idx Pr l k
 |[],_,_,_=>rfl
 |a::r,k,m,h=>by
  have h0:m[k]? =some a:=by
   have e:(m.drop k)[0]? =some a:=by rw[h];rfl
   rw[nX]at e;exact e
  have h1:m.drop (k+1)=r:=by rw[<-sP,h];rfl
  rw[aX,qL,iF,h0,GA Pr r (k+1) m h1];show _=if Pr a=true then k::idx Pr r (k+1)else idx Pr r (k+1);simp only[cY];by_cases hp:Pr a=true
  ·rw[if_pos hp,if_pos hp]
  ·rw[if_neg hp,if_neg hp]
def AF(A:aE)(H:Hp)(p:Addr)(ns:List Node):Prop:=∃dx fs l vs,H p=some (.ins A.bM dx fs)/\ fs.lookup ("nodes":Str)=some (.ref l)/\ H l=some (.lst vs)/\ Paired (bZ H) vs ns
def aaS(A:aE):Sp:=λvs H Q _=>∃(p:Addr) (ns:List Node),vs=[.ref p]/\ AF A H p ns/\ (∀x∈ns,x.1<4)/\ ns.length<=100000/\ iV H Q ((idx (λx=> !bR x) ns 0).map nI)
theorem GB(T:Txt K mg A):Gd P w K mg base 2 A.EU A.MD ["self"] (aaS A):=by
 refine T.Ym.go (N:=["self","point","node"]) ?_;rintro aC A' outer s H vs Q E hr nd ⟨p,ns,rfl,⟨dx,fs,l,vs,hp,hf,hl,xl⟩,hk,hlen,q⟩;refine⟨_,(ag (aB (mj U nd (zF (by rfl) T.z5 (aj (ao (pv 0)))) (jF (own:=[("point",1),("node",2)]) (by show iS ["self","point","node"] (d5 (inClass (top 81) 5)) _ _=true;decide+kernel)) (λ_ _ _ _ _=>(zS (K:=K) (n:=2) U U (kY (cx 1 nd) (kY (cx 2 nd) tV)))) (λ_ _ _ _ _=>(wg (ij (dC (aP hr (mw T) T.mq (aj (pv 2))))))) (λ_ _ _ _ _=>(pv 1))))),?_⟩;have gk:=ck xl;refine⟨_,U,_,_,_,_,_,U,hp,T.aF,T.ki,hf,l,vs,U,ab.of hl,λD hD=>Lp (λ_=>False) so so.mono ns (λk x=>if(!bR x)=true then some k else none) hD (Hid.none _) (by omega) (ab.of hl) gk (λu v=>rfl) ?_ ?_⟩
 ·intro k H1 x y hx hy s1 aH Ky Kn h1 h2
  obtain⟨y',kZ,n,u',rfl,hn,_⟩:=fB xl hx;have e:y'=y:=ay (kZ.symm.trans hy);subst e;have gO:=hk y' (bC hy);refine⟨_,U,n,y'.1,_,U,s1 _ _ hn,_,U,?_⟩;rw[nG gO];cases hj:bR y' with
  |true=>exact aA (h2 _ (by rw[hj];rfl) (aa.refl _))
  |false=>exact aJ ⟨_,U,h1 k _ _ (by rw[hj];rfl) (aa.refl _) U⟩
 ·intro H1 acc s1 cH aH bh
  have e:(List.range ns.length).filterMap (λk=>ns[k]?.bind λx=>if(!bR x)=true then some k else none)=idx (λx=> !bR x) ns 0:=by rw[oh];exact GA _ ns 0 ns U
  rw[e]at bh;rw[Gz bh]at cH;exact q D H1 s1 hD cH
def aaT(A:aE):Sp:=λvs H Q _=>∃(p:Addr) (ns:List Node) (kd:Nat),vs=[.ref p,nI kd]/\ AF A H p ns/\ ns.length<=100000/\ iV H Q ((idx (λx=>x.1==kd) ns 0).map nI)
theorem OM(T:Txt K mg A):Gd P w K mg base 1 A.EV A.ME ["self","kind"] (aaT A):=by
 refine T.Yn.go (N:=["self","kind","point","node"]) ?_;rintro aC A' outer s H vs Q E hr nd ⟨p,ns,kd,rfl,⟨dx,fs,l,vs,hp,hf,hl,xl⟩,hlen,q⟩;refine⟨_,(ag (aB (mj U nd (zF (by rfl) T.z5 (aj (ao (pv 0)))) (jF (own:=[("point",2),("node",3)]) (by show iS ["self","kind","point","node"] (d5 (inClass (top 81) 6)) _ _=true;decide+kernel)) (λ_ _ _ _ _=>(zS (K:=K) (n:=2) U U (kY (cx 2 nd) (kY (cx 3 nd) tV)))) (λ_ _ _ _ _=>(wg (aR cj (ug (K:=K) U (pv 3) ak) (pv 1)))) (λ_ _ _ _ _=>(pv 2))))),?_⟩;have gk:=ck xl;refine⟨_,U,_,_,_,_,_,U,hp,T.aF,T.ki,hf,l,vs,U,ab.of hl,λD hD=>Lp (λ_=>False) so so.mono ns (λk x=>if(x.1==kd)=true then some k else none) hD (Hid.none _) (by omega) (ab.of hl) gk (λu v=>rfl) ?_ ?_⟩
 ·intro k H1 x y hx hy s1 aH Ky Kn h1 h2
  obtain⟨y',kZ,n,u',rfl,hn,_⟩:=fB xl hx;have e:y'=y:=ay (kZ.symm.trans hy);subst e;refine⟨_,U,_,_,_,_,U,U,bz.of (s1 _ _ hn),bT,_,U,U,_,U,?_⟩;show if decide (V.int (y'.1:Int)=V.int (kd:Int))=true then _ else _;rw[jH];refine b9 (λh=>?_) (λh=>?_)
  ·have e2:=of_decide_eq_true h
   exact⟨_,U,h1 k _ _ (by rw[if_pos (beq_iff_eq.mpr e2)]) (aa.refl _) U⟩
  ·have e2:¬y'.1=kd:=λc=>h (decide_eq_true c)
   exact h2 _ (by rw[if_neg (by simpa using e2)]) (aa.refl _)
 ·intro H1 acc s1 cH aH bh
  have e:(List.range ns.length).filterMap (λk=>ns[k]?.bind λx=>if(x.1==kd)=true then some k else none)=idx (λx=>x.1==kd) ns 0:=by rw[oh];exact GA _ ns 0 ns U
  rw[e]at bh;rw[Gz bh]at cH;exact q D H1 s1 hD cH
def fE(vs:List V)(S:PA)(ow ro:List Nat):List (List V):=[vs,ow.map nI,S.below.map V.int,S.sides.map V.int,S.seconds.map V.int,S.switches.map V.int,S.partners.map V.int,S.turns.map V.int,ro.map nI]
def sq(A:aE)(P:Addr->Prop)(H:Hp)(a:eK)(S:PA)(ow ro:List Nat)(cc:Int):Prop:=∃vs,dE A H a (fE vs S ow ro) (S.jc:Int) cc/\ Paired (bZ (Wo (dZ P a) H)) vs S.nodes
structure fX(S:PA):Prop where
 b:S.below.length=S.nodes.length
 s:S.sides.length=S.nodes.length
 e:S.seconds.length=S.nodes.length
 w:S.switches.length=S.nodes.length
 p:S.partners.length=S.nodes.length
 t:S.turns.length=S.nodes.length
theorem fX.add{S:PA}(h:fX S)(x:Node)(b sd:Int):fX (dz S x b sd):=by constructor<;>simp[dz,h.b,h.s,h.e,h.w,h.p,h.t]
theorem fX.fix{S:PA}(h:fX S)(b sd:Int)(p:Nat):fX (d4 S b sd p):=by
 unfold d4;split
 ·exact⟨h.b,h.s,by simp[h.e],h.w,h.p,h.t⟩
 ·exact h
def aaU(S:PA)(aw:List (Int×Int)):Prop:=∀e∈aw,e.2=1->∃n:Nat,e.1=(n:Int)/\ n<S.nodes.length
theorem ON(S:PA):∀l:List Node,l.foldl hU (S,[])=(S,[])
 |[]=>rfl
 |x::r=>by show r.foldl hU (S,[])=_;exact ON S r
theorem AG(S:PA)(b sd:Int)(p:Nat):(d4 S b sd p).nodes=S.nodes:=by unfold d4;split<;>rfl
theorem OO:∀(l:List Node) (z:PA×List (Int×Int)),(l.foldl hU z).1.nodes.length<=z.1.nodes.length+l.length
 |[],z=>aM _
 |x::r,z=>by
  rw[qM];refine cO (OO r _) ?_;have:(hU z x).1.nodes.length<=z.1.nodes.length+1:=by
   unfold hU;split
   ·rw[AG];simp[dz]
   ·omega
  rw[aX];omega
theorem AH:∀(F:Formula),multiplicative F=true->∀(S:PA) (b sd:Int),(gr S b sd F).nodes.length=S.nodes.length+nodes F
 | .atom n a,_,S,b,sd=>by show(d4 _ _ _ _).nodes.length=_;rw[AG];simp[dz,Vaneta.nodes]
 | .tensor F G,h,S,b,sd| .par F G,h,S,b,sd=>by simp only[multiplicative,bb]at h;show(gr (gr _ _ _ F) _ _ G).nodes.length=_;rw[AH G h.2,AH F h.1,AG];simp[dz,Vaneta.nodes];omega
 | .wth A B,h,_,_,_| .plus A B,h,_,_,_| .ofc A,h,_,_,_| .whn A,h,_,_,_=>by simp[multiplicative]at h
theorem aaV{F:Formula}(hF:multiplicative F=true)(S:PA){i:Nat}(hi:i<(enc F).length):(((enc F).take i).foldl hU (S,[(-1,-1)])).2≠ []:=by
 intro h;have h1:=tI F hF S (-1) (-1) [];have h2:(enc F).foldl hU (S,[(-1,-1)])=((enc F).drop i).foldl hU (((enc F).take i).foldl hU (S,[(-1,-1)])):=by rw[<-uT,uS]
 generalize hz:((enc F).take i).foldl hU (S,[(-1,-1)])=z at h h2;obtain⟨S',aw⟩:=z;have h:aw=[]:=h;subst h;rw[ON,h1]at h2;have e:gr S (-1) (-1) F=S':=congrArg Prod.fst h2;have l1:=AH F hF S (-1) (-1);have l2:=OO ((enc F).take i) (S,[(-1,-1)]);rw[hz,mX]at l2;have l2:S'.nodes.length<=S.nodes.length+min i (enc F).length:=l2;rw[<-e,l1]at l2;rw[bJ]at l2 hi;omega
def sr(H:Hp)(v:V)(x:Int×Int):Prop:=∃m,v= .ref m/\ H m=some (.tup [.int x.1, .int x.2])
theorem sr.mono:eP sr:=λ_ _ _ _ s ⟨m,e,h⟩=>⟨m,e,s _ _ h⟩
theorem dE.out{A:aE}{H:Hp}{a:eK}{cs:List (List V)}{jc cc:Int}{x:Addr}{o:HO}(h:dE A H a cs jc cc)(h1:x≠a.p)(h2:x∉a.L):dE A (upd H x o) a cs jc cc:=
 ⟨by rw[aD (Ne.symm h1)];exact h.obj,λi y hy=>by obtain⟨ys,e1,e2⟩:=h.at_ i y hy;exact⟨ys,e1,by rw[aD λc=>h2 (by rw[<-c];exact bC hy)];exact e2⟩,h.nd⟩
theorem uH{n j:Nat}(h:j<n):me n (j:Int)=some j:=by unfold me;rw[if_pos (by omega),if_pos (by omega)];simp
theorem OP(S:PA)(x:Node)(b sd:Int)(g:V)(vs:List V)(ow ro:List Nat)(o p:Nat):fE (vs++[g]) (d4 (dz S x b sd) b sd p) (ow++[o]) ro=
  [vs++[g],ow.map nI++[nI o],S.below.map V.int++[.int b],S.sides.map V.int++[.int sd],(if sd=1 then(S.seconds.map V.int++[V.int (-1)]).set b.toNat (nI p)else S.seconds.map V.int++[.int (-1)]),S.switches.map V.int++[.int (if bR x=true then(S.jc:Int)else-1)],S.partners.map V.int++[.int (-1)],S.turns.map V.int++[.int (-1)],ro.map nI]:=by
 unfold fE d4;by_cases h:sd=1
 ·rw[if_pos h,if_pos h]
  simp only[dz,gD,da,pG,yf];rfl
 ·rw[if_neg h,if_neg h]
  simp only[dz,gD,da,pG]
theorem OQ(S:PA)(x:Node)(b sd:Int)(p:Nat):((d4 (dz S x b sd) b sd p).jc:Int)=if bR x=true then(S.jc:Int)+1 else S.jc:=by
 have e:(d4 (dz S x b sd) b sd p).jc=if bR x=true then S.jc+1 else S.jc:=by unfold d4;split<;>rfl
 rw[e];split<;>simp
def aaW(A:aE):Sp:=λvs H Q _=>∃(P:Addr->Prop) (a:eK) (fv:V) (F:Formula) (S:PA) (ow ro:List Nat) (cc:Int),vs=[.ref a.p,fv]/\ sq A P H a S ow ro cc/\ Hid P H/\ dj (Wo (dZ P a) H) fv F/\ fX S/\ S.nodes.length+nodes F<=40000/\ ro.length<=1000/\ ow.length=S.nodes.length/\
 ∀H',bU a H H'->sq A P H' a (fQ S F) (ow++List.replicate (nodes F) ro.length) (ro++[S.nodes.length]) cc->Q .aO H'
theorem aaX(T:Txt K mg A):Gd P w K mg base 3 A.EO A.Mz ["self","formula"] (aaW A):=by
 refine T.Yi.go (N:=["self","formula","root","owner","awaited","node","point","spot"]) ?_;rintro aC A' outer s H vs Q E hr nd ⟨P,a,fv,F,S,ow,ro,cc,rfl,⟨wZ,S0,p0⟩,hP,⟨hF,fa,fvs,rfl,fF,su⟩,hL,hlen,mH,how,q⟩;refine⟨_,(af (aN 2 nd (dw T.c6 (ao (pv 0))))
  (af (aN 3 nd (dw T.c6 (ao (pv 0))))
  (af (aN 4 nd (aS (aj (gh (aY (il ip ak) (il ip ak))))))
  (af (eZ PassesOwn.never U (eE (pv 1)) (cx 5 nd) (af (aN 6 nd (dw T.c6 (ao (pv 0))))
  (af (aN 7 nd (oJ PySem.F.plainAttrs_list PySem.F.slot_list_pop PySem.F.type_list_pop oK (pv 4)))
  (af (bF (bN hr (aaQ T) T.aF T.WR (pv 0) (fM (pv 5) (aY (cW (pv 7) ak) (cW (pv 7) ak)))))
  (af (bF (dD (ao (pv 0)) (pv 3)))
  (af (a9 (aR cj (cW (pv 7) ak) ak) (ag (tX (pv 6) (tW (ao (pv 0)) (cW (pv 7) ak) set_list))) bt)
  (ag (a9 (dC (aP hr (mw T) T.mq (aj (pv 5)))) (af (bF (dD (pv 4) (gh (aY (pv 6) ak))))
  (ag (bF (dD (pv 4) (gh (aY (pv 6) ak)))))) bt))))))))
  (af (tX (pv 2) (tW (ao (pv 0)) (pv 2) set_list))
  (ag (bF (dD (ao (pv 0)) (pv 2))))))))),?_⟩
 have e0:=ck p0;have efv:=ck su;have enl:=bJ F;refine⟨_,U,_,_,_,_,_,U,S0.obj,T.aF,T.ki,U,a.l0,_,U, .inl (ab.of (S0.get 0 U U)),?_⟩;refine⟨_,U,_,_,_,_,_,U,S0.obj,T.aF,T.oV,U,a.l8,_,U, .inl (ab.of (S0.get 8 U U)),?_⟩;rw[e0,aI];refine⟨_,U,_,U,gm,λt0 sv=>⟨cu,λl hl=>?_⟩⟩;have s1:aa H (upd (upd H t0 (.tup [.int (-1), .int (-1)])) l (.lst [.ref t0])):=(aa.new sv).trans (aa.new hl);have dY:H l=none:=(aa.new sv).free hl;have nt:t0≠l:=λc=>by subst c;rw[ae]at hl;cases hl
 have nlp:l≠a.p:=λc=>by rw[c,S0.obj]at dY;cases dY
 have nlL:l∉a.L:=λc=>by obtain⟨i,hi⟩:=jN.mp c;obtain⟨ys,_,h2⟩:=S0.at_ i l hi;rw[h2]at dY;cases dY
 have GC:=S0.aH hP;have hO:Hid (aL (dZ P a) l) (upd (upd H t0 (.tup [.int (-1), .int (-1)])) l (.lst [.ref t0])):=(GC.mono s1).lh ae;have d7:Hid (dZ P a) H:=GC;refine⟨_,U,fa,U,⟨_,ab.of (s1 _ _ (bB _ _ _ _ fF))⟩,gL (xs:=fvs) (λi σ' H'=>∃(S':PA) (aw:List (Int×Int)) (ws:List V) (u v w:Option V),σ'=[some (.ref a.p),some (.ref fa),some (nI S.nodes.length),some (nI ro.length),some (.ref l),u,v,w]/\ bU a H H'/\ ((enc F).take i).foldl hU (S,[(-1,-1)])=(S',aw)/\ (∃iA,dE A H' a (fE iA S' (ow++List.replicate i ro.length) ro) (S'.jc:Int) cc/\ Paired (bZ (Wo (aL (dZ P a) l) H')) iA S'.nodes)/\ Hid P H'/\ H' l=some (.lst ws)/\ Paired (sr (Wo (aL (dZ P a) l) H')) ws aw.reverse/\ fX S'/\ aaU S' aw/\ S'.nodes.length=S.nodes.length+i/\ aw.length<=i+1)
  ⟨S,[(-1,-1)],_,none,none,none,U,bU.of s1,U,⟨wZ,by rw[List.replicate_zero,iD];exact S0.mono s1,bO (λ_ _ r=>bZ.mono _ _ _ _ (qe dY s1) r) p0⟩,hP.mono s1,ae,qc ⟨t0,U,?_⟩,hL,λe he h1=>by simp at he;rw[he]at h1;simp at h1,U,aM _⟩ (λi σ' H' _ ⟨_,_,_,_,_,_,_,k,_⟩=>ab.of (bB _ _ _ _ (k.wo (P:=P) _ _ fF))) ?_ ?_⟩
 ·rw[cR,aD nt,ae]
  rintro(c|c)
  ·exact GC.not sv c
  ·exact nt c
 ·rintro i x σ' H' hx ⟨S',aw,ws,u,v,w,rfl,k,hfold,⟨iA,S1,p1⟩,uI,wW,AI,nO,AJ,rq,eg⟩
  obtain⟨nd',gb,rnd⟩:=fB su hx;have hi:=dm gb;have gO:=jt F hF nd' (bC gb);have b8:=aaV hF S hi;rw[hfold]at b8;have el:=ck p1;obtain⟨⟨b,sd⟩,aw,rfl⟩:=List.exists_cons_of_ne_nil b8;rw[rY]at AI;obtain⟨ws,wv,rfl,OR,m,rfl,hm⟩:=ue AI;clear AI;have j_:=ck OR;rw[sZ]at j_;simp only[aX]at eg;obtain⟨hmO,vf⟩:=iT hm;have nml:m≠l:=λc=>hmO (.inr c);have nmp:m≠a.p:=λc=>hmO (.inl (.inr (.inl c)));have nmL:m∉a.L:=λc=>hmO (.inl (.inr (.inr c)));have rnd':=bZ.mono _ _ _ _ k.wo rnd;obtain⟨g,u',rfl,AK,aaY⟩:=rnd;obtain⟨hgM,hgH⟩:=iT AK;have ngp:g≠a.p:=λc=>hgM (.inr (.inl c));have ngL:g∉a.L:=λc=>hgM (.inr (.inr c));have ngl:g≠l:=bS hgH dY;have GD:=k _ _ hgH ngp ngL;refine⟨_,U,_,_,_,_,_,U,S1.obj,T.aF,T.ki,U,a.l0,_,U, .inl (ab.of (S1.get 0 U U)),?_⟩;rw[el];refine⟨_,U, .inl ⟨U,_,ab.of wW⟩,l,_,_,U,U,wW,oZ _ _,?_⟩;rw[oe];have S1q:dE A (upd H' l (.lst ws)) a _ _ _:=S1.out nlp nlL;have kq:bU a H (upd H' l (.lst ws)):=λb o e h1 h2=>by rw[aD (bS e dY)];exact k b o e h1 h2
  have xm:upd H' l (.lst ws) m=some (.tup [.int b, .int sd]):=by rw[aD nml];exact vf
  have xn:upd H' l (.lst ws) g=some (.tup [.int (nd'.1:Int),u']):=by rw[aD ngl];exact GD
  have AL:upd H' l (.lst ws) l=some (.lst ws):=ae;have eWq:Wo (aL (dZ P a) l) (upd H' l (.lst ws))=Wo (aL (dZ P a) l) H':=dP (.inr U);have wsq:Paired (sr (Wo (aL (dZ P a) l) (upd H' l (.lst ws)))) ws aw.reverse:=by rw[eWq];exact OR
  have hPq:Hid P (upd H' l (.lst ws)):=uI.upd;have pq:Paired (bZ (Wo (aL (dZ P a) l) (upd H' l (.lst ws)))) iA S'.nodes:=by rw[eWq];exact p1
  generalize upd H' l (.lst ws)=Hq at S1q kq xm xn AL wsq hPq pq⊢;have bnd:S'.nodes.length<=40000:=by omega
  refine⟨_,U,a.p,_,_,U,S1q.obj,U,_,U,_,U,_,_,_,_,U,U,bz.of xm,bT,_,U,_,_,_,_,U,U,bz.of xm,fO,a, .ref g,nd',b,sd,iA,_,_,_,_,_,_,_,_,_,cc,U,S1q,⟨g,u',U,xn,ngp,ngL⟩,gO,⟨by omega,by rw[aI,nO.b];omega,by rw[aI,nO.s];omega,by rw[aI,nO.e];omega,by rw[aI,nO.w];omega,by rw[aI,nO.p];omega,by rw[aI,nO.t];omega⟩,λH2 k2 S2=>?_⟩;have fh:=k2 _ _ AL nlp nlL;have om:=k2 _ _ xm nmp nmL;have kx:=k2 _ _ xn ngp ngL;have hP2:=k2.aH hPq S2;refine⟨_,U,_,_,_,_,_,U,S2.obj,T.aF,T.um,U, .inl ⟨U,_,ab.of (S2.get 1 U U)⟩,_,U,a.l1,_,_,U,U,S2.get 1 U U,dk (by rw[aI,bL,pE];omega),?_⟩;have S3:=S2.set 1 (x:=a.l1) ((ow++List.replicate i ro.length).map nI++[nI ro.length]) U (by simp);have k3:bU a Hq _:=k2.ul (o:= .lst ((ow++List.replicate i ro.length).map nI++[nI ro.length])) (x:=a.l1) 1 U;generalize upd H2 a.l1 (.lst ((ow++List.replicate i ro.length).map nI++[nI ro.length]))=H3 at S3 k3⊢;have OS:=k3 _ _ AL nlp nlL;have OT:=k3 _ _ xm nmp nmL;have GF:=k3 _ _ xn ngp ngL;refine⟨_,U,_,_,_,_,U,U,bz.of OT,fO,U,_,U,?_⟩;rw[uv];refine Ll (λσ4 H4=>σ4=[some (.ref a.p),some (.ref fa),some (nI S.nodes.length),some (nI ro.length),some (.ref l),some (.ref g),some (nI S'.nodes.length),some (.ref m)]/\ bU a Hq H4/\ dE A H4 a (fE (iA++[.ref g]) (d4 (dz S' nd' b sd) b sd S'.nodes.length) ((ow++List.replicate i ro.length)++[ro.length]) ro) ((d4 (dz S' nd' b sd) b sd S'.nodes.length).jc:Int) cc) ?_ ?_ ?_
  ·rintro σ4 H4 ⟨rfl,k4,S4⟩
   have sx:=k4 _ _ AL nlp nlL;have GG:=k4 _ _ xn ngp ngL;have GH:=k4.aH hPq S4;have kk:=kq.trans k4;have e2:ow++List.replicate (i+1) ro.length=(ow++List.replicate i ro.length)++[ro.length]:=by rw[List.replicate_succ',fK]
   have fold2:((enc F).take (i+1)).foldl hU (S,[(-1,-1)])=(d4 (dz S' nd' b sd) b sd S'.nodes.length,qX nd' S'.nodes.length aw):=by rw[iy gb,uT,hfold];rfl
   have sy:(d4 (dz S' nd' b sd) b sd S'.nodes.length).nodes=S'.nodes++[nd']:=by rw[AG];rfl
   have up4:aa (Wo (dZ P a) H) (Wo (aL (dZ P a) l) H4):=λc o e=>by obtain⟨c1,c2⟩:=iT e;rw[cR (by rintro(z|z);exact c1 z;exact bS c2 dY z)];exact kk c o c2 (λz=>c1 (.inr (.inl z))) (λz=>c1 (.inr (.inr z)))
   have ko:aa (Wo (aL (dZ P a) l) Hq) (Wo (aL (dZ P a) l) H4):=qd λc o e hc=>k4 c o e (λz=>hc (.inl (.inr (.inl z)))) (λz=>hc (.inl (.inr (.inr z))));have rnd4:=bZ.mono _ _ _ _ up4 (show bZ (Wo (dZ P a) H) (.ref g) nd' from⟨g,u',U,AK,aaY⟩);have p4:Paired (bZ (Wo (aL (dZ P a) l) H4)) (iA++[.ref g]) (S'.nodes++[nd']):=ke (bO (λ_ _ r=>bZ.mono _ _ _ _ ko r) pq) rnd4;have L4:=(nO.add nd' b sd).fix b sd S'.nodes.length;have OU:Paired (sr (Wo (aL (dZ P a) l) H4)) ws aw.reverse:=bO (λ_ _ r=>sr.mono _ _ _ _ ko r) wsq;have OV:Hid (aL (dZ P a) l) H4:=(S4.aH GH).lh sx;refine⟨_,U,g,nd'.1,_,U,GG,_,U,?_⟩;rw[nG gO];cases hj:bR nd' with
   |false=>refine aA ⟨_,aw,ws,_,_,_,U,kk,by rw[fold2];unfold qX;rw[hj];rfl,⟨iA++[.ref g],by rw[e2];exact S4,by rw[sy];exact p4⟩,GH,sx,OU,L4,λe he h1=>?_,by rw[sy];simp;omega,by omega⟩;obtain⟨n,n1,n2⟩:=AJ e (by simp[he]) h1;exact⟨n,n1,by rw[sy];simp;omega⟩
   |true=>
    refine aJ ⟨_,U, .inl ⟨U,_,ab.of sx⟩,_,U,gm,λt1 uJ=>⟨l,_,_,U,U,aa.new uJ _ _ sx,dk (by omega),?_⟩⟩;have s5:=aa.new (o:= .tup [nI S'.nodes.length, .int 1]) uJ;refine⟨_,U, .inl ⟨U,_,ab.of ae⟩,_,U,gm,λt2 qB=>⟨l,_,_,U,U,aa.new qB _ _ ae,dk (by simp;omega),?_⟩⟩;have s6:=aa.new (o:= .tup [nI S'.nodes.length, .int 0]) qB;have nt1l:t1≠l:=λc=>by subst c;rw[sx]at uJ;cases uJ
    have nt2l:t2≠l:=λc=>by subst c;rw[ae]at qB;cases qB
    have aa0:t1≠t2:=λc=>by subst c;rw[aD nt1l,ae]at qB;cases qB
    have OW:H4 t2=none:=by rw[aD nt2l]at qB;exact s5.free qB
    have t1O:¬aL (dZ P a) l t1:=OV.not uJ;have t2O:¬aL (dZ P a) l t2:=OV.not OW;have S5:dE A (upd (upd (upd (upd H4 t1 (.tup [nI S'.nodes.length, .int 1])) l (.lst (ws++[.ref t1]))) t2 (.tup [nI S'.nodes.length, .int 0])) l (.lst ((ws++[.ref t1])++[.ref t2]))) a _ _ _:=(((S4.mono s5).out nlp nlL).mono s6).out nlp nlL;have e7:∀o,aa (Wo (aL (dZ P a) l) H4) (Wo (aL (dZ P a) l) (upd (upd (upd (upd H4 t1 (.tup [nI S'.nodes.length, .int 1])) l (.lst (ws++[.ref t1]))) t2 (.tup [nI S'.nodes.length, .int 0])) l o)):=λo=>by rw[dP (.inr U)];refine aa.trans ?_ (bV s6);rw[dP (.inr U)];exact bV s5
    have kk7:bU a H (upd (upd (upd (upd H4 t1 (.tup [nI S'.nodes.length, .int 1])) l (.lst (ws++[.ref t1]))) t2 (.tup [nI S'.nodes.length, .int 0])) l (.lst ((ws++[.ref t1])++[.ref t2]))):=λc o e h1 h2=>by have ncl:=bS e dY;have h4:=kk c o e h1 h2;rw[aD ncl,aD (bS h4 OW),aD ncl,aD (bS h4 uJ)];exact h4
    refine⟨_,qX nd' S'.nodes.length aw,_,_,_,_,U,kk7,fold2,⟨iA++[.ref g],by rw[e2];exact S5,by rw[sy];exact bO (λ_ _ r=>bZ.mono _ _ _ _ (e7 _) r) p4⟩,((GH.mono s5).upd.mono s6).upd,ae,?_,L4,λe he h1=>?_,by rw[sy];simp;omega,by unfold qX;rw[hj];simp;omega⟩
    ·unfold qX
     rw[hj,if_pos U,rY,rY];refine ke (ke (bO (λ_ _ r=>sr.mono _ _ _ _ (e7 _) r) OU) ⟨t1,U,?_⟩) ⟨t2,U,?_⟩
     ·rw[cR t1O,aD nt1l,aD aa0,aD nt1l,ae];rfl
     ·rw[cR t2O,aD nt2l,ae];rfl
    ·unfold qX at he
     rw[hj,if_pos U]at he;rcases a_.mp he with rfl|he
     ·simp at h1
     ·rcases a_.mp he with rfl|he
      ·exact⟨S'.nodes.length,U,by rw[sy];simp⟩
      ·obtain⟨n,n1,n2⟩:=AJ e (by simp[he]) h1
       exact⟨n,n1,by rw[sy];simp;omega⟩
  ·intro h K
   have AM:sd=1:=of_decide_eq_true h;obtain⟨n,n1,n2⟩:=AJ (b,sd) (by simp) AM;have n1:b=(n:Int):=n1;refine⟨_,U,_,U,_,_,_,_,_,U,S3.obj,T.aF,T.Ad,U,_,U,_,_,_,_,U,U,bz.of OT,bT,a.l4,_,_,n,U,U,S3.get 4 U U,by rw[n1];exact uH (by simp[nO.e];omega),K _ _ ⟨U,k3.ul (x:=a.l4) 4 U,?_⟩⟩;have S4:=S3.set 4 (x:=a.l4) ((S'.seconds.map V.int++[V.int (-1)]).set n (nI S'.nodes.length)) U (by simp);rw[OP,OQ,if_pos AM,n1,iZ];rw[n1]at S4;exact S4
  ·intro h
   have AM:¬sd=1:=λc=>h (decide_eq_true c);refine⟨U,k3,?_⟩;rw[OP,OQ,if_neg AM];exact S3
 ·rintro σ' H' ⟨S',aw,ws,u,v,w,rfl,k,hfold,⟨iA,S1,p1⟩,uI,wW,AI,nO,AJ,rq,eg⟩
  rw[efv,kK,tI F hF]at hfold;have eS:gr S (-1) (-1) F=S':=congrArg Prod.fst hfold;rw[efv,enl]at S1 rq;have np:=fz F;refine⟨_,U,_,U,_,_,_,_,_,U,S1.obj,T.aF,T.oU,U,_,U,a.l7,_,_,S.nodes.length,U,U,S1.get 7 U U,uH (by rw[aI,nO.t];omega),?_⟩;have S2:=S1.set 7 (x:=a.l7) ((S'.turns.map V.int).set S.nodes.length (nI S.nodes.length)) U (by unfold fE;simp);have k2:bU a H _:=k.ul (o:= .lst ((S'.turns.map V.int).set S.nodes.length (nI S.nodes.length))) (x:=a.l7) 7 U;have p2:Paired (bZ (Wo (dZ P a) (upd H' a.l7 (.lst ((S'.turns.map V.int).set S.nodes.length (nI S.nodes.length)))))) iA S'.nodes:=by refine bO (λ_ _ r=>bZ.mono _ _ _ _ ?_ r) p1;rw[dP (P:=dZ P a) (l:=a.l7) (.inr (.inr (by unfold eK.L;simp)))];exact qg
  generalize upd H' a.l7 (.lst ((S'.turns.map V.int).set S.nodes.length (nI S.nodes.length)))=H2 at S2 k2 p2⊢;refine⟨_,U,_,_,_,_,_,U,S2.obj,T.aF,T.oV,U, .inl ⟨U,_,ab.of (S2.get 8 U U)⟩,_,U,a.l8,_,_,U,U,S2.get 8 U U,dk (by rw[aI];omega),?_⟩;have S3:=S2.set 8 (x:=a.l8) (ro.map nI++[nI S.nodes.length]) U (by unfold fE;simp);refine q _ (k2.ul (x:=a.l8) 8 U) ⟨iA,?_,?_⟩
  ·unfold fQ
   rw[eS];have e:fE iA {S' with turns:=S'.turns.set S.nodes.length (S.nodes.length:Int)} (ow++List.replicate (nodes F) ro.length) (ro++[S.nodes.length])=[iA,(ow++List.replicate (nodes F) ro.length).map nI,S'.below.map V.int,S'.sides.map V.int,S'.seconds.map V.int,S'.switches.map V.int,S'.partners.map V.int,(S'.turns.map V.int).set S.nodes.length (nI S.nodes.length),ro.map nI++[nI S.nodes.length]]:=by unfold fE;simp only[gD,yf,da,pG];rfl
   rw[e];exact S3
  ·unfold fQ
   rw[eS,dP (P:=dZ P a) (l:=a.l8) (.inr (.inr (by unfold eK.L;simp)))];exact p2
theorem aa2{m:Nat}(h:2*m<=100000):zE 0 ((2*m:Nat):Int) 2 m:=by
 have e:Builtin.Range.rangeSize 0 ((2*m:Nat):Int) 2=(m:Int):=by
  unfold Builtin.Range.rangeSize;rw[if_pos (by decide)];by_cases hm:m=0
  ·subst hm;rw[if_neg (by decide)];rfl
  ·rw[if_pos (by omega)];omega
 refine⟨by decide,by decide,?_,e⟩;have f:∀z:Int,-1000000<=z->z<=1000000->Builtin.Range.rangeFitsLong z=true:=by intro z h1 h2;unfold Builtin.Range.rangeFitsLong;rw[bb,decide_eq_true_eq,decide_eq_true_eq];omega
 unfold Builtin.Range.small;rw[e,f 0 (by decide) (by decide),f _ (by omega) (by omega),f 2 (by decide) (by decide),f _ (by omega) (by omega),if_pos (by decide),f _ (by omega) (by omega)];simp
theorem OX:∀(n:Nat) (l:List Nat) (t:List Int) (x y:Nat),l.length=2*n->gH (l++[x,y]) t=((gH l t).set x y).set y x
 |0,l,t,x,y,h=>by have:l=[]:=uX.mp (by omega);subst this;rfl
 |n+1,[],t,x,y,h=>by simp at h
 |n+1,[a],t,x,y,h=>by simp at h;omega
 |n+1,a::b::r,t,x,y,h=>by show gH (r++[x,y]) ((t.set a b).set b a)=_;rw[OX n r _ x y (by simp at h;omega)];rfl
def aa3(A:aE):Sp:=λvs H Q _=>∃(P:Addr->Prop) (a:eK) (r:Addr) (rs:List Nat) (m:Nat) (S:PA) (ow ro:List Nat) (cc:Int),vs=[.ref a.p, .ref r]/\ sq A P H a S ow ro cc/\ H r=some (.lst (rs.map nI))/\ r≠a.p/\ r∉a.L/\ rs.length=2*m/\ rs.length<=1000/\ (∀z∈rs,z<S.turns.length)/\
 ∀H',bU a H H'->sq A P H' a {S with turns:=gH rs S.turns} ow ro cc->Q .aO H'
theorem aa4(T:Txt K mg A):Gd P w K mg base 1 A.ES A.MB ["self","roots"] (aa3 A):=by
 refine T.Yk.go (N:=["self","roots","at"]) ?_;rintro aC A' outer s H vs Q E hr nd ⟨P,a,r,rs,m,S,ow,ro,cc,rfl,⟨vs,S0,p0⟩,d7,nrp,nrL,hm,hlen,aU,q⟩;refine⟨_,(ag (eZ PassesOwn.never U (UB (by rfl) T.z6 (fM ak (aY (dw T.c6 (pv 1)) ak))) (cx 2 nd) (af (tX (aT (pv 1) (b_ jd (pv 2) ak)) (tW (ao (pv 0)) (aT (pv 1) (pv 2)) set_list))
  (ag (tX (aT (pv 1) (pv 2)) (tW (ao (pv 0)) (aT (pv 1) (b_ jd (pv 2) ak)) set_list)))))),?_⟩
 refine⟨_,U,r,_,U, .inl (ab.of d7),_,_,_,m,U,?_,UC (lo:=0) (c:=2) (n:=m) (λi σ' H'=>∃u,σ'=[some (.ref a.p),some (.ref r),u]/\ bU a H H'/\ dE A H' a (fE vs {S with turns:=gH (rs.take (2*i)) S.turns} ow ro) (S.jc:Int) cc) ⟨none,U,bU.refl,S0⟩ ?_ ?_⟩
 ·rw[aI,hm];exact aa2 (by omega)
 ·rintro i σ' H' hi ⟨u,rfl,k,S1⟩
  have sC:=k _ _ d7 nrp nrL;obtain⟨x,hx⟩:∃x,rs[2*i]? =some x:=⟨_,br (by omega)⟩
  obtain⟨y,hy⟩:∃y,rs[2*i+1]? =some y:=⟨_,br (by omega)⟩
  have AD:(rs.map nI)[2*i]? =some (nI x):=by rw[ez,hx];rfl
  have kZ:(rs.map nI)[2*i+1]? =some (nI y):=by rw[ez,hy];rfl
  have lx:=aU x (bC hx);have ly:=aU y (bC hy);have et:rs.take (2*(i+1))=rs.take (2*i)++[x,y]:=by rw[show 2*(i+1)=2*i+1+1 by omega,iy hy,iy hx,fK];rfl
  have jl:=Ca (rs.take (2*i)) S.turns;generalize hj:gH (rs.take (2*i)) S.turns=tt at S1 jl;refine⟨_,U,_,U,_,_,U,U,_,_,_,_,U,U,ab.of sC,at_of (j:=2*i+1) (by omega) kZ,_,U,_,_,_,_,_,U,S1.obj,T.aF,T.oU,U,_,U,_,U,_,_,_,_,U,U,ab.of sC,at_of (j:=2*i) (by omega) AD,a.l7,_,_,x,U,U,S1.get 7 U U,uH (by show x<(tt.map V.int).length;rw[aI];omega),?_⟩;have S2:=S1.set 7 (x:=a.l7) ((tt.map V.int).set x (nI y)) U (by unfold fE;simp);have k2:bU a H _:=k.ul (o:= .lst ((tt.map V.int).set x (nI y))) (x:=a.l7) 7 U;have An:upd H' a.l7 (.lst ((tt.map V.int).set x (nI y))) r=some (.lst (rs.map nI)):=by rw[aD λc=>nrL (by rw[c];unfold eK.L;simp)];exact sC
  refine⟨_,U,_,U,_,_,_,_,U,U,ab.of An,at_of (j:=2*i) (by omega) AD,_,U,_,_,_,_,_,U,S2.obj,T.aF,T.oU,U,_,U,_,U,_,_,U,U,_,_,_,_,U,U,ab.of An,at_of (j:=2*i+1) (by omega) kZ,a.l7,_,_,y,U,U,S2.get 7 U U,uH (by rw[sU,aI];omega),_,U,k2.ul (x:=a.l7) 7 U,?_⟩;have S3:=S2.set 7 (x:=a.l7) (((tt.map V.int).set x (nI y)).set y (nI x)) U (by unfold fE;simp);have e:fE vs {S with turns:=gH (rs.take (2*(i+1))) S.turns} ow ro=[vs,ow.map nI,S.below.map V.int,S.sides.map V.int,S.seconds.map V.int,S.switches.map V.int,S.partners.map V.int,((tt.map V.int).set x (nI y)).set y (nI x),ro.map nI]:=by unfold fE;rw[et,OX i _ _ _ _ (by rw[mX];omega),hj];simp only[yf];rfl
  rw[e];exact S3
 ·rintro σ' H' ⟨u,rfl,k,S1⟩
  rw[pF (by omega)]at S1;exact q _ k ⟨vs,S1,bO (λ_ _ r=>bZ.mono _ _ _ _ k.wo r) p0⟩
theorem dE.nodes{A:aE}{H:Hp}{a:eK}{vs:List V}{cs:List (List V)}{jc cc:Int}{ns:List Node}(S:dE A H a (vs::cs) jc cc)(p:Paired (bZ H) vs ns):AF A H a.p ns:=⟨a.dx,_,a.l0,vs,S.obj,U,S.get 0 U U,p⟩
theorem OY(lp:List Nat):∀(l:List (Nat×Nat)) (t:List Int) (x:Nat×Nat),fR lp (l++[x]) t=((fR lp l t).set (lp.getD x.1 0) (lp.getD x.2 0)).set (lp.getD x.2 0) (lp.getD x.1 0)
 |[],t,x=>rfl
 |y::r,t,x=>by show fR lp (r++[x]) _=_;rw[OY lp r];rfl
def aa5(A:aE):Sp:=λvs H Q _=>∃(P:Addr->Prop) (a:eK) (kv:V) (lk:List (Nat×Nat)) (S:PA) (ow ro:List Nat) (cc:Int),vs=[.ref a.p,kv]/\ sq A P H a S ow ro cc/\ cS d6 (Wo (dZ P a) H) kv lk/\ (∀x∈S.nodes,x.1<4)/\ S.nodes.length<=40000/\ S.partners.length=S.nodes.length/\ (∀z∈lk,z.1<(idx (λx=> !bR x) S.nodes 0).length/\ z.2<(idx (λx=> !bR x) S.nodes 0).length)/\
 ∀H',bU a H H'->sq A P H' a {S with partners:=fR (idx (λx=> !bR x) S.nodes 0) lk S.partners} ow ro cc->Q .aO H'
theorem OZ{α:Type}{Pr:α->Bool}:∀(l:List α) (k:Nat),∀x∈idx Pr l k,x<k+l.length
 |[],k,x,h=>by simp[idx]at h
 |a::r,k,x,h=>by
  have ih:=OZ (Pr:=Pr) r (k+1);have h:x∈if Pr a=true then k::idx Pr r (k+1)else idx Pr r (k+1):=h;split at h
  ·rcases a_.mp h with rfl|h
   ·simp
   ·have:=ih x h;simp;omega
  ·have:=ih x h;simp;omega
theorem aa6(T:Txt K mg A):Gd P w K mg base 3 A.ET A.MC ["self","links"] (aa5 A):=by
 refine T.Yl.go (N:=["self","links","leaves","pair"]) ?_;rintro aC A' outer s H vs Q E hr nd ⟨P,a,kv,lk,S,ow,ro,cc,rfl,⟨vs,S0,p0⟩,⟨ka,ks,rfl,xj,xk⟩,gO,hlen,bK,aU,q⟩;refine⟨_,(af (aN 2 nd (dO hr (GB T) T.aF T.FL (pv 0)))
  (ag (eZ PassesOwn.never U (eE (pv 1)) (cx 3 nd) (af (tX (aT (pv 2) (cW (pv 3) ak)) (tW (ao (pv 0)) (aT (pv 2) (cW (pv 3) ak)) set_list))
  (ag (tX (aT (pv 2) (cW (pv 3) ak)) (tW (ao (pv 0)) (aT (pv 2) (cW (pv 3) ak)) set_list))))))),?_⟩
 have Gu:=ck xk;refine⟨_,U,a.p,_,_,U,S0.obj,U,a.p,S.nodes,U,S0.nodes (bO (λ_ _ r=>bZ.mono _ _ _ _ (bB _ _) r) p0),gO,by omega,λlf H1 s1 rV mJ=>?_⟩;have xo:=OZ (Pr:=λx=> !bR x) S.nodes 0;generalize idx (λx=> !bR x) S.nodes 0=lp at q aU mJ xo;have nlp:lf≠a.p:=λc=>by rw[c,S0.obj]at rV;cases rV
 have nlL:lf∉a.L:=λc=>by obtain⟨i,hi⟩:=jN.mp c;obtain⟨ys,_,h2⟩:=S0.at_ i lf hi;rw[h2]at rV;cases rV
 refine⟨_,U,ka,U,⟨_,ab.of (s1 _ _ (bB _ _ _ _ xj))⟩,gL (xs:=ks) (λi σ' H'=>∃u,σ'=[some (.ref a.p),some (.ref ka),some (.ref lf),u]/\ bU a H1 H'/\ dE A H' a (fE vs {S with partners:=fR lp (lk.take i) S.partners} ow ro) (S.jc:Int) cc) ⟨none,U,bU.refl,S0.mono s1⟩ (λi σ' H' _ ⟨_,_,k,_⟩=>ab.of (bB _ _ _ _ (k.wo (P:=P) _ _ (bV s1 _ _ xj)))) ?_ ?_⟩
 ·rintro i x σ' H' hx ⟨u,rfl,k,S1⟩
  obtain⟨pr,bh,g,rfl,hg⟩:=fB xk hx;have GD:=k.wo (P:=P) _ _ (bV s1 _ _ hg);obtain⟨hgM,kx⟩:=iT GD;have GI:=k _ _ mJ nlp nlL;obtain⟨l1,l2⟩:=aU pr (bC bh);obtain⟨x1,GJ⟩:∃x,lp[pr.1]? =some x:=⟨_,br l1⟩
  obtain⟨x2,qC⟩:∃x,lp[pr.2]? =some x:=⟨_,br l2⟩
  have O0:(lp.map nI)[pr.1]? =some (nI x1):=by rw[ez,GJ];rfl
  have O1:(lp.map nI)[pr.2]? =some (nI x2):=by rw[ez,qC];rfl
  have b1:=xo x1 (bC GJ);have b2:=xo x2 (bC qC);have et:fR lp (lk.take (i+1)) S.partners=((fR lp (lk.take i) S.partners).set x1 x2).set x2 x1:=by rw[iy bh,OY,eX GJ,eX qC]
  have jl:=Cb lp (lk.take i) S.partners;rw[et];generalize fR lp (lk.take i) S.partners=tt at S1 jl⊢;refine⟨_,U,_,U,_,_,_,_,U,U,bz.of kx,fO,_,_,_,_,U,U,ab.of GI,bH O1,_,U,_,_,_,_,_,U,S1.obj,T.aF,T.oT,U,_,U,_,U,_,_,_,_,U,U,bz.of kx,bT,_,_,_,_,U,U,ab.of GI,bH O0,a.l6,_,_,x1,U,U,S1.get 6 U U,uH (by show x1<(tt.map V.int).length;rw[aI];omega),?_⟩;have S2:=S1.set 6 (x:=a.l6) ((tt.map V.int).set x1 (nI x2)) U (by unfold fE;simp);have k2:bU a H1 _:=k.ul (o:= .lst ((tt.map V.int).set x1 (nI x2))) (x:=a.l6) 6 U;have m6:a.l6∈a.L:=by unfold eK.L;simp
  have O2:upd H' a.l6 (.lst ((tt.map V.int).set x1 (nI x2))) lf=some (.lst (lp.map nI)):=by rw[aD λc=>nlL (by rw[c];exact m6)];exact GI
  have GF:upd H' a.l6 (.lst ((tt.map V.int).set x1 (nI x2))) g=some (.tup [.int (pr.1:Int), .int (pr.2:Int)]):=by rw[aD λc=>hgM (.inr (.inr (by rw[c];exact m6)))];exact kx
  refine⟨_,U,_,U,_,_,_,_,U,U,bz.of GF,bT,_,_,_,_,U,U,ab.of O2,bH O0,_,U,_,_,_,_,_,U,S2.obj,T.aF,T.oT,U,_,U,_,U,_,_,_,_,U,U,bz.of GF,fO,_,_,_,_,U,U,ab.of O2,bH O1,a.l6,_,_,x2,U,U,S2.get 6 U U,uH (by rw[sU,aI];omega),_,U,k2.ul (x:=a.l6) 6 U,?_⟩;have S3:=S2.set 6 (x:=a.l6) (((tt.map V.int).set x1 (nI x2)).set x2 (nI x1)) U (by unfold fE;simp);have e:fE vs {S with partners:=(tt.set x1 (x2:Int)).set x2 (x1:Int)} ow ro=[vs,ow.map nI,S.below.map V.int,S.sides.map V.int,S.seconds.map V.int,S.switches.map V.int,((tt.map V.int).set x1 (nI x2)).set x2 (nI x1),S.turns.map V.int,ro.map nI]:=by unfold fE;simp only[yf];rfl
  rw[e];exact S3
 ·rintro σ' H' ⟨u,rfl,k,S1⟩
  rw[Gu,kK]at S1;have kk:bU a H H':=bU.trans (bU.of s1) k;exact q _ kk ⟨vs,S1,bO (λ_ _ r=>bZ.mono _ _ _ _ kk.wo r) p0⟩
abbrev dn:=PA×List Nat×List Nat×Nat
def bq(A:aE)(H:Hp)(v:V)(D:dn):Prop:=∃a vs,v= .ref a.p/\ dE A H a (fE vs D.1 D.2.1 D.2.2.1) (D.1.jc:Int) (D.2.2.2:Int)/\ Paired (bZ H) vs D.1.nodes
theorem bq.mono{A:aE}:eP (bq A):=λ_ _ _ _ s ⟨a,vs,e,h,p⟩=>⟨a,vs,e,h.mono s,bO (λ_ _ r=>bZ.mono _ _ _ _ s r) p⟩
def nP(x:P3):PA:=iJ PA.empty (bE x)
def uK(x:P3):List Nat:=idx (λn=> !bR n) (nP x).nodes 0
def uL(x:P3):List Nat:=rootsFrom 0 (bE x)
def eh(x:P3):dn:=({nP x with turns:=gH ((uL x).drop x.1.length) (nP x).turns,partners:=fR (uK x) x.2.2 (nP x).partners},iL 0 (bE x),uL x,x.1.length)
theorem O3:∀(l:List Formula) (S:PA) (F:Formula),iJ S (l++[F])=fQ (iJ S l) F
 |[],_,_=>rfl
 |G::r,S,F=>O3 r (fQ S G) F
theorem O4:∀(l:List Formula) (j:Nat) (F:Formula),iL j (l++[F])=iL j l++List.replicate (nodes F) (j+l.length)
 |[],j,F=>by simp[iL]
 |G::r,j,F=>by show List.replicate (nodes G) j++iL (j+1) (r++[F])=_;rw[O4 r,<-fK];congr 2;simp;omega
theorem O5:∀(l:List Formula) (n:Nat) (F:Formula),rootsFrom n (l++[F])=rootsFrom n l++[n+bf l]
 |[],n,F=>by simp[rootsFrom,bf]
 |G::r,n,F=>by show n::rootsFrom (n+nodes G) (r++[F])=_;rw[O5 r];simp[rootsFrom,bf];omega
theorem fX.lay:∀(F:Formula),multiplicative F=true->∀{S:PA} (b sd:Int),fX S->fX (gr S b sd F)
 | .atom n a,_,S,b,sd,h=>(h.add _ b sd).fix b sd _
 | .tensor F G,hm,S,b,sd,h| .par F G,hm,S,b,sd,h=>by simp only[multiplicative,bb]at hm;exact fX.lay G hm.2 _ _ (fX.lay F hm.1 _ _ ((h.add _ b sd).fix b sd _))
 | .wth A B,h,_,_,_,_| .plus A B,h,_,_,_,_| .ofc A,h,_,_,_,_| .whn A,h,_,_,_,_=>by simp[multiplicative]at h
theorem fX.fQ{F:Formula}(hF:multiplicative F=true){S:PA}(h:fX S):fX (PM.fQ S F):=by have l:=fX.lay F hF (-1) (-1) h;unfold PM.fQ;exact⟨l.b,l.s,l.e,l.w,l.p,by simp[l.t]⟩
theorem aa7{F:Formula}(hF:multiplicative F=true)(S:PA):(PM.fQ S F).nodes.length=S.nodes.length+nodes F:=by unfold PM.fQ;exact AH F hF S _ _
theorem GK:∀(fs:List Formula) (S:PA),(∀F∈fs,multiplicative F=true)->fX S->fX (iJ S fs)/\ (iJ S fs).nodes.length=S.nodes.length+bf fs
 |[],S,_,h=>⟨h,by simp[iJ,bf]⟩
 |F::r,S,hm,h=>by have hF:=hm F (by simp);obtain⟨h1,h2⟩:=GK r (PM.fQ S F) (λG hG=>hm G (by simp[hG])) (fX.fQ hF h);refine⟨h1,?_⟩;show(iJ (PM.fQ S F) r).nodes.length=_;rw[h2,aa7 hF];simp only[bf];omega
theorem GL{α:Type}(Pr:α->Bool):∀(l:List α) (k:Nat),(idx Pr l k).length=(l.filter Pr).length
 |[],_=>rfl
 |a::r,k=>by have ih:=GL Pr r (k+1);show(if Pr a=true then k::idx Pr r (k+1)else idx Pr r (k+1)).length=_;rw[kM];split<;>simp[ih]
theorem O6:fX PA.empty:=⟨U,U,U,U,U,U⟩
theorem O7{x:P3}(hm:∀F∈bE x,multiplicative F=true):(nP x).nodes=(bE x).flatMap enc:=by unfold nP;rw[yA (bE x) PA.empty hm ⟨U,U⟩];rfl
theorem aa8{x:P3}(hm:∀F∈bE x,multiplicative F=true):(uK x).length=(cJ x).length:=by unfold uK cJ;rw[GL,O7 hm,List.filter_flatMap];have e:((bE x).flatMap λF=>(enc F).filter λn=> !bR n)=uF (bE x):=rfl;rw[e,Gw,aI]
def K1(p:Addr)(H H':Hp):Prop:=∀b o,H b=some o->b≠p->H' b=some o
structure Pre(A:aE)(H0 H:Hp)(p dx:Addr)(fs:List (Str×V))(ls:List Addr):Prop where
 obj:H p=some (.ins A.bM dx fs)
 emp:∀x∈ls,H x=some (.lst [])
 new:∀x∈ls,H0 x=none
 nd:ls.Nodup
 kp:K1 p H0 H
theorem Pre.step{A:aE}{H0 H:Hp}{p dx z:Addr}{fs:List (Str×V)}{ls:List Addr}(f:Str)(h:Pre A H0 H p dx fs ls)(hz:H z=none):Pre A H0 (upd (upd H z (.lst [])) p (.ins A.bM dx (bA f (.ref z) fs))) p dx (bA f (.ref z) fs) (ls++[z]):=by
 have nzp:z≠p:=λc=>by rw[c,h.obj]at hz;cases hz
 have nls:∀x∈ls,x≠z:=λx hx c=>by rw[<-c,h.emp x hx]at hz;cases hz
 have nlp:∀x∈ls,x≠p:=λx hx c=>by have:=h.emp x hx;rw[c,h.obj]at this;cases this
 have qy:H0 z=none:=by
  cases e:H0 z with
  |none=>rfl
  |some o=>rw[h.kp z o e nzp]at hz;cases hz
 refine⟨ae,λx hx=>?_,λx hx=>?_,?_,λb o e hb=>?_⟩
 ·rcases cN.mp hx with hx|hx
  ·rw[aD (nlp x hx),aD (nls x hx)];exact h.emp x hx
  ·simp at hx;subst hx;rw[aD nzp,ae]
 ·rcases cN.mp hx with hx|hx
  ·exact h.new x hx
  ·simp at hx;subst hx;exact qy
 ·exact K7 h.nd λc=>nls z c U
 ·rw[aD hb,aD (bS e qy)];exact h.kp b o e hb
theorem Pre.objs{A:aE}{H0 H:Hp}{p dx:Addr}{fs:List (Str×V)}{ls:List Addr}(lW:List (Str×V))(h:Pre A H0 H p dx fs ls):Pre A H0 (upd H p (.ins A.bM dx lW)) p dx lW ls:=by
 have nlp:∀x∈ls,x≠p:=λx hx c=>by have:=h.emp x hx;rw[c,h.obj]at this;cases this
 exact⟨ae,λx hx=>by rw[aD (nlp x hx)];exact h.emp x hx,h.new,h.nd,λb o e hb=>by rw[aD hb];exact h.kp b o e hb⟩
theorem Pre.O8{A:aE}{H0 H:Hp}{p dx:Addr}{fs:List (Str×V)}{ls:List Addr}(f:Str)(v:V)(h:Pre A H0 H p dx fs ls):Pre A H0 (upd H p (.ins A.bM dx (bA f v fs))) p dx (bA f v fs) ls:=h.objs _
structure O9(x:P3):Prop where
 ok:qx x
 nb:∀F∈bE x,nodes F<=200
 lk:∀z∈x.2.2,z.1<(cJ x).length/\ z.2<(cJ x).length
theorem O_:∀(l:List Formula) (b:Nat),(∀F∈l,nodes F<=b)->bf l<=l.length*b
 |[],b,_=>bj _
 |F::r,b,h=>by have:=O_ r b λG hG=>h G (by simp[hG]);have:=h F (by simp);simp only[bf,aX,Nat.add_mul];omega
theorem Pa(x:P3):(uL x).length=(bE x).length:=lL _ _
def aa9(A:aE):Sp:=λvs H Q _=>∃(P:Addr->Prop) (p dx:Addr) (v:V) (x:P3),vs=[.ref p,v]/\ H p=some (.ins A.bM dx [])/\ ¬P p/\ c7 A (Wo (aL P p) H) v x/\ O9 x/\ Hid P H/\
 ∀H',K1 p H H'->bq A (Wo P H') (.ref p) (eh x)->Q .aO H'
theorem GN(T:Txt K mg A):Gd P w K mg base 4 A.zW A.My ["self","parts"] (aa9 A):=by
 refine T.Yh.go (N:=["self","parts","formula"]) ?_;rintro aC A' outer s H vs Q E hr nd ⟨P,p,dx,v,x,rfl,gQ,nPp,fW,bo,hP,q⟩;refine⟨_,(af (cn (pv 0) (aS bY))
  (af (cn (pv 0) (aS bY))
  (af (cn (pv 0) (aS bY))
  (af (cn (pv 0) (aS bY))
  (af (cn (pv 0) (aS bY))
  (af (cn (pv 0) (aS bY))
  (af (cn (pv 0) (aS bY))
  (af (cn (pv 0) (aS bY))
  (af (cn (pv 0) ak)
  (af (cn (pv 0) (dw T.c6 (ao (pv 1))))
  (af (cn (pv 0) (aS bY))
  (af (eZ PassesOwn.never U (eE (dO hr (Gs T) T.gN T.FI (pv 1))) (cx 2 nd) (ag (bF (bN hr (aaX T) T.aF T.WQ (pv 0) (aj (pv 2))))))
  (af (bF (bN hr (aa4 T) T.aF T.WS (pv 0) (aj (oH oI (ao (pv 0)) (je (ao (pv 0))) C4))))
  (ag (bF (bN hr (aa6 T) T.aF T.WT (pv 0) (aj (ao (pv 1))))))))))))))))))),?_⟩
 have ok:=bo.ok;obtain⟨fok,flen⟩:=xh ok;have fm:∀F∈bE x,multiplicative F=true:=λF hF=>(fok F hF).1;obtain⟨ap,adx,ac,au,al,rfl,sD,GO,hau,eg⟩:=id fW;obtain⟨hapP,aa_⟩:=iT sD;have nap:ap≠p:=λc=>hapP (.inr c);have R0:Pre A H H p dx [] []:=⟨gQ,λx hx=>by simp at hx,λx hx=>by simp at hx,nY,λb o e _=>e⟩
 refine⟨bj _,λl0 h0=>⟨_,U,p,_,_,_,U,aa.new h0 _ _ R0.obj,T.aF,T.ki,(by show 0<1000;decide),?_⟩⟩;have R1:=R0.step "nodes" h0;generalize upd (upd H l0 (.lst [])) p (.ins A.bM dx (bA "nodes" (.ref l0) []))=H1 at R1⊢;refine⟨bj _,λl1 h1=>⟨_,U,p,_,_,_,U,aa.new h1 _ _ R1.obj,T.aF,T.um,(by show 1<1000;decide),?_⟩⟩;have R2:=R1.step "owners" h1;generalize upd (upd H1 l1 (.lst [])) p (.ins A.bM dx (bA "owners" (.ref l1) _))=H2 at R2⊢;refine⟨bj _,λl2 h2=>⟨_,U,p,_,_,_,U,aa.new h2 _ _ R2.obj,T.aF,T.ql,(by show 2<1000;decide),?_⟩⟩;have R3:=R2.step "below" h2;generalize upd (upd H2 l2 (.lst [])) p (.ins A.bM dx (bA "below" (.ref l2) _))=H3 at R3⊢;refine⟨bj _,λl3 h3=>⟨_,U,p,_,_,_,U,aa.new h3 _ _ R3.obj,T.aF,T.wK,(by show 3<1000;decide),?_⟩⟩;have R4:=R3.step "sides" h3;generalize upd (upd H3 l3 (.lst [])) p (.ins A.bM dx (bA "sides" (.ref l3) _))=H4 at R4⊢;refine⟨bj _,λl4 h4=>⟨_,U,p,_,_,_,U,aa.new h4 _ _ R4.obj,T.aF,T.Ad,(by show 4<1000;decide),?_⟩⟩;have R5:=R4.step "seconds" h4;generalize upd (upd H4 l4 (.lst [])) p (.ins A.bM dx (bA "seconds" (.ref l4) _))=H5 at R5⊢;refine⟨bj _,λl5 h5=>⟨_,U,p,_,_,_,U,aa.new h5 _ _ R5.obj,T.aF,T.wL,(by show 5<1000;decide),?_⟩⟩;have R6:=R5.step "switches" h5;generalize upd (upd H5 l5 (.lst [])) p (.ins A.bM dx (bA "switches" (.ref l5) _))=H6 at R6⊢;refine⟨bj _,λl6 h6=>⟨_,U,p,_,_,_,U,aa.new h6 _ _ R6.obj,T.aF,T.oT,(by show 6<1000;decide),?_⟩⟩;have R7:=R6.step "partners" h6;generalize upd (upd H6 l6 (.lst [])) p (.ins A.bM dx (bA "partners" (.ref l6) _))=H7 at R7⊢;refine⟨bj _,λl7 h7=>⟨_,U,p,_,_,_,U,aa.new h7 _ _ R7.obj,T.aF,T.oU,(by show 7<1000;decide),?_⟩⟩;have R8:=R7.step "turns" h7;generalize upd (upd H7 l7 (.lst [])) p (.ins A.bM dx (bA "turns" (.ref l7) _))=H8 at R8⊢;refine⟨_,U,p,_,_,_,U,R8.obj,T.aF,T.qm,(by show 8<1000;decide),?_⟩;have R9:=R8.O8 "junction_count" (.int 0);generalize upd H8 p (.ins A.bM dx (bA "junction_count" (.int 0) _))=H9 at R9⊢;obtain⟨ca,cs,rfl,fc,eT⟩:=GO;obtain⟨hcaP,aa'⟩:=iT fc;have ncap:ca≠p:=λc=>hcaP (.inr c);have bD:=ck eT;refine⟨_,U,_,_,_,_,_,U,R9.kp _ _ aa_ nap,T.gN,T.uk,U,ca,_,U, .inl (ab.of (R9.kp _ _ aa' ncap)),_,U,p,_,_,_,U,R9.obj,T.aF,T.FX,(by show 9<1000;decide),?_⟩;rw[bD];have R10:=R9.O8 "conclusion_count" (.int (x.1.length:Int));generalize upd H9 p (.ins A.bM dx (bA "conclusion_count" (.int (x.1.length:Int)) _))=H10 at R10⊢;refine⟨bj _,λl8 h8=>⟨_,U,p,_,_,_,U,aa.new h8 _ _ R10.obj,T.aF,T.oV,(by show 10<1000;decide),?_⟩⟩;have R11:=R10.step "roots" h8;generalize upd (upd H10 l8 (.lst [])) p (.ins A.bM dx (bA "roots" (.ref l8) _))=H11 at R11⊢;obtain⟨a,ha⟩:∃a:eK,a=⟨p,dx,l0,l1,l2,l3,l4,l5,l6,l7,l8⟩:=⟨_,U⟩
 have eL:a.L=[l0,l1,l2,l3,l4,l5,l6,l7,l8]:=by rw[ha];rfl
 have eap:a.p=p:=by rw[ha]
 have R12:Pre A H H11 p dx _ [l0,l1,l2,l3,l4,l5,l6,l7,l8]:=R11;have S0:dE A H11 a (fE [] PA.empty [] []) ((PA.empty.jc:Nat):Int) (x.1.length:Int):=by
  refine⟨by rw[ha];exact R11.obj,λi y hy=>?_,by rw[eL];exact R12.nd⟩;rw[eL]at hy;have hm:=R12.emp y (bC hy);have hi:=dm hy;refine⟨[],?_,hm⟩;match i,hi with
  |0,_|1,_|2,_|3,_|4,_|5,_|6,_|7,_|8,_=>rfl
  |i+9,hi=>simp at hi;omega
 have GP:∀y∈a.L,H y=none:=λy hy=>by rw[eL]at hy;exact R12.new y hy
 have GQ:K1 p H H11:=R12.kp;have Pb:Hid P H11:=λb hb e=>by
  cases hq:H b with
  |none=>exact hP b hb hq
  |some o=>rw[GQ b o hq (λc=>nPp (by rw[<-c];exact hb))]at e;cases e
 clear R0 R1 R2 R3 R4 R5 R6 R7 R8 R9 R10 R11 R12 h0 h1 h2 h3 h4 h5 h6 h7 h8;have up:aa (Wo (aL P p) H) (Wo (dZ P a) H11):=λb o e=>by
  obtain⟨b1,b2⟩:=iT e;rw[cR]
  ·exact GQ b o b2 λc=>b1 (.inr c)
  ·rintro(c|c|c)
   ·exact b1 (.inl c)
   ·exact b1 (.inr (by rw[c,eap]))
   ·rw[GP b c]at b2;cases b2
 have jj:=c7.mono _ _ _ _ up fW;have aba:=bB _ _ _ _ (up _ _ sD);refine⟨_,U,ap,adx,_,U,aba,U,dZ P a, .ref ap,x,U,jj,ok,S0.aH Pb,λw1 H12 bQ hw1=>?_⟩;obtain⟨fa,fvs,rfl,fF,su⟩:=hw1;have Ox:=ck su;have nle:∀i,bf ((bE x).take i)<=12000:=λi=>by
  refine cO (O_ _ 200 λF hF=>bo.nb F (Bu hF)) ?_;have:((bE x).take i).length<=60:=by rw[mX];omega
  calc ((bE x).take i).length*200<=60*200:=Bz _ this
   _=12000:=rfl
 rw[<-eap];refine⟨fa,U,⟨_,ab.of (bB _ _ _ _ fF)⟩,gL (xs:=fvs) (λi σ' H'=>∃u,σ'=[some (.ref a.p),some (.ref ap),u]/\ bU a H12 H'/\ sq A P H' a (iJ PA.empty ((bE x).take i)) (iL 0 ((bE x).take i)) (rootsFrom 0 ((bE x).take i)) (x.1.length:Int)/\ Hid P H')
  ⟨none,U,bU.refl,⟨[],S0.mono bQ, .nil⟩,Pb.mono bQ⟩ (λi σ' H' _ ⟨_,_,k,_⟩=>ab.of (bB _ _ _ _ (k.wo (P:=P) _ _ fF))) ?_ ?_⟩
 ·rintro i y σ' H' hy ⟨u,rfl,k,hD,uI⟩
  obtain⟨F,hF,rF⟩:=fB su hy;have hi:=dm hF;have hFm:=fm F (bC hF);obtain⟨LA,LN⟩:=GK ((bE x).take i) PA.empty (λG hG=>fm G (Bu hG)) O6;have LN:(iJ PA.empty ((bE x).take i)).nodes.length=bf ((bE x).take i):=by rw[LN];exact ft _
  have b1:=nle i;have b2:=bo.nb F (bC hF);have Pc:=hD;obtain⟨iA,S1,p1⟩:=hD;refine⟨_,U,a.p,_,_,U,S1.obj,U,_,U,P,a,y,F,_,_,_,(x.1.length:Int),U,Pc,uI,dj.mono _ _ _ _ k.wo rF,LA,by rw[LN];omega,by rw[lL,mX];omega,by rw[IW,LN],λH2 k2 h2=>⟨_,U,k.trans k2,?_,?_⟩⟩
  ·rw[iy hF,O3,O4,O5]
   rw[lL,LN]at h2;simp only[ft];exact h2
  ·obtain⟨vs2,S2,_⟩:=h2
   exact k2.aH uI S2
 ·rintro σ' H' ⟨u,rfl,k,hD,uI⟩
  rw[Ox,kK]at hD;obtain⟨LA,LN⟩:=GK (bE x) PA.empty fm O6;have LN:(iJ PA.empty (bE x)).nodes.length=bf (bE x):=by rw[LN];exact ft _
  have b1:=nle (bE x).length;rw[kK]at b1;have Pc:=hD;obtain⟨iA,S1,p1⟩:=hD;have rl:(rootsFrom 0 (bE x)).length=(bE x).length:=lL _ _;have fl2:(bE x).length=x.1.length+2*x.2.1.length:=by
   unfold bE;rw[bL];congr 1;generalize x.2.1=l;induction l with
   |nil=>rfl
   |cons a r ih=>rw[gE,bL,ih];simp;omega
  refine⟨_,U,a.p,_,_,U,S1.obj,U,_,U,_,_,_,_,_,U,S1.obj,T.aF,T.oV,U,_,U,_,_,_,_,_,U,S1.obj,T.aF,T.FX,U,_,U,a.l8,_,U,ab.of (S1.get 8 U U),λr d7=>?_⟩;have ecut:fT ((rootsFrom 0 (bE x)).map nI) (some (x.1.length:Int)) none=((uL x).drop x.1.length).map nI:=by rw[Lr _ (by rw[aI];omega),oa];rfl
  have s2:=aa.new (o:= .lst (fT ((rootsFrom 0 (bE x)).map nI) (some (x.1.length:Int)) none)) d7;have nrp:r≠a.p:=λc=>by rw[c,S1.obj]at d7;cases d7
  have nrL:r∉a.L:=λc=>by obtain⟨i,hi⟩:=jN.mp c;obtain⟨ys,_,h2⟩:=S1.at_ i r hi;rw[h2]at d7;cases d7
  refine⟨P,a,r,(uL x).drop x.1.length,x.2.1.length,nP x,iL 0 (bE x),uL x,(x.1.length:Int),U,⟨iA,S1.mono s2,bO (λ_ _ q=>bZ.mono _ _ _ _ (bV s2) q) p1⟩,by rw[ae,ecut],nrp,nrL,by rw[iE,Pa];omega,by rw[iE,Pa];omega,λz hz=>?_,λH2 k2 h2=>?_⟩
  ·have:=m7 (bE x) 0 z (xV hz)
   have e:=LA.t;show z<(iJ PA.empty (bE x)).turns.length;rw[e,LN];omega
  have kk:bU a H12 H2:=(k.same s2).trans k2;have abe:=bB _ _ _ _ (kk.wo (P:=P) _ _ (bV bQ _ _ (up _ _ sD)));have pK:=h2;obtain⟨vs2,S2,p2⟩:=h2;refine⟨_,U,a.p,_,_,U,S2.obj,U,_,U,_,_,_,_,_,U,abe,T.gN,T.Ac,U,P,a,al,x.2.2,_,_,_,(x.1.length:Int),U,pK,cS.mono d6.mono _ _ _ _ ((up.trans (bV bQ)).trans kk.wo) eg,?_,by show(nP x).nodes.length<=40000;unfold nP;rw[LN];omega,LA.p,?_,λH3 k3 h3=>?_⟩
  ·intro n hn
   have hn:n∈(nP x).nodes:=hn;rw[O7 fm]at hn;obtain⟨F,hF,hn⟩:=gn.mp hn;exact jt F (fm F hF) n hn
  ·intro z hz
   show z.1<(uK x).length/\ z.2<(uK x).length;rw[aa8 fm];exact bo.lk z hz
  ·have GR:bU a H12 H3:=kk.trans k3
   refine q H3 (λb o e hb=>?_) ?_
   ·have wt:b≠a.p:=by rw[eap];exact hb
    refine GR b o (bQ _ _ (GQ b o e hb)) wt λc=>?_;rw[GP b c]at e;cases e
   ·obtain⟨Gj,S3,p3⟩:=h3
    refine⟨a,Gj,by rw[eap],?_,bO (λ_ _ q=>bZ.mono _ _ _ _ (zQ λb hb=> .inl hb) q) p3⟩;refine⟨?_,λi y hy=>?_,S3.nd⟩
    ·rw[cR (by rw[eap];exact nPp)];exact S3.obj
    ·obtain⟨ys,e1,e2⟩:=S3.at_ i y hy
     refine⟨ys,e1,?_⟩;rw[cR λc=>hP y c (GP y (bC hy))];exact e2
abbrev Net:=Vanetc.Net
abbrev aQ(s:Net):List Vanetc.Point:=Vanetc.points s
structure dF(s:Net)(D:dn):Prop where
 good:Good s
 arr:Arr s D.1
 be:D.1.below=f_ 0 (formulas s)
 si:D.1.sides=iK (formulas s)
 se:D.1.seconds=i6 0 (formulas s)
 nd:D.1.nodes=(formulas s).flatMap enc
 ow:D.2.1=iL 0 (formulas s)
 ro:D.2.2.1=dR s
 cc:D.2.2.2=s.concl.length
 bd:(aQ s).length<=240
def dy(b:Bool):V:= .int (if b=true then 1 else 0)
theorem fY{l:List Int}{i:Nat}{z:Int}(h:l[i]? =some z):(l.map V.int)[i]? =some (.int z):=by rw[ez,h];rfl
theorem kz{l:List Nat}{i n:Nat}(h:l[i]? =some n):(l.map nI)[i]? =some (nI n):=by rw[ez,h];rfl
theorem xp{s:Net}{D:dn}(d:dF s D):∀x∈D.1.nodes,x.1<4:=λx hx=>by rw[d.nd]at hx;obtain⟨F,hF,hx⟩:=gn.mp hx;exact jt F (d.good.mul F hF) x hx
def pb:Sp:=λvs H Q _=>∃p:Nat,vs=[nI p]/\ Q (nI (Vanetg.up p)) H
theorem abf(p:Nat):V.int (2*(p:Int))=nI (Vanetg.up p):=by unfold nI Vanetg.up;congr 1
theorem abg(p:Nat):V.int (2*(p:Int)+1)=nI (Vanetg.down p):=by unfold nI Vanetg.down;congr 1
theorem AN(T:Txt K mg A):Gd P w K mg base 1 A.E7 A.MP ["point"] pb:=by refine T.Yy.go (N:=["point"]) ?_;rintro aC A' outer s H vs Q E hr nd ⟨p,rfl,q⟩;refine⟨_,(ag (aB (b_ zi ak (pv 0)))),?_⟩;refine⟨_,U,_,_,U,U, .inl ⟨by decide,by decide⟩,?_⟩;rw[<-abf]at q;exact q
def uM:Sp:=λvs H Q _=>∃p:Nat,vs=[nI p]/\ Q (nI (Vanetg.down p)) H
theorem GS(T:Txt K mg A):Gd P w K mg base 1 A.E8 A.MQ ["point"] uM:=by refine T.Yz.go (N:=["point"]) ?_;rintro aC A' outer s H vs Q E hr nd ⟨p,rfl,q⟩;refine⟨_,(ag (aB (b_ jd (b_ zi ak (pv 0)) ak))),?_⟩;refine⟨_,U,_,_,U,U, .inl ⟨by decide,by decide⟩,_,_,U,U,?_⟩;rw[<-abg]at q;exact q
def abh(A:aE):Sp:=λvs H Q _=>∃(v:V) (D:dn) (s:Net),vs=[v]/\ bq A H v D/\ dF s D/\ Q (nI (passages s)) H
theorem GU(T:Txt K mg A):Gd P w K mg base 1 A.EY A.MH ["self"] (abh A):=by
 refine T.Yq.go (N:=["self"]) ?_;rintro aC A' outer s H vs Q E hr nd ⟨v,D,s,rfl,⟨a,vs,rfl,S,p⟩,d,q⟩;refine⟨_,(ag (aB (b_ zi ak (dw T.c6 (ao (pv 0)))))),?_⟩;have hl:=ck p;refine⟨_,U,_,_,_,_,_,U,S.obj,T.aF,T.ki,U,a.l0,_,U, .inl (ab.of (S.get 0 U U)),_,_,U,U, .inl ⟨by decide,by decide⟩,?_⟩;rw[hl,d.arr.ln];have e:V.int (2*((aQ s).length:Int))=nI (passages s):=by unfold nI passages;congr 1
 rw[<-e]at q;exact q
def abi(A:aE):Sp:=λvs H Q _=>∃(v:V) (D:dn) (s:Net) (n:Int),vs=[v, .int n]/\ bq A H v D/\ dF s D/\ Q (.bl (below n s.concl.length)) H
theorem GV(T:Txt K mg A):Gd P w K mg base 1 A.EW A.MF ["self","number"] (abi A):=by
 refine T.Yo.go (N:=["self","number"]) ?_;rintro aC A' outer s H vs Q E hr nd ⟨v,D,s,n,rfl,⟨a,vs,rfl,S,p⟩,d,q⟩;refine⟨_,(ag (aB (zk j6 iq ak (pv 1) (ao (pv 0))))),?_⟩;unfold below at q;refine⟨_,U,_,_,U,U,_,U,b9 (λh=>?_) (λh=>?_)⟩
 ·refine⟨_,U,_,_,_,_,_,U,S.obj,T.aF,T.FX,U,_,_,U,U,?_⟩
  rw[decide_eq_true (of_decide_eq_true h),mV]at q;rw[d.cc];exact q
 ·rw[decide_eq_false λc=>h (decide_eq_true c),n8]at q
  exact q
def abj(A:aE):Sp:=λvs H Q _=>∃(v:V) (D:dn) (s:Net) (n:Int),vs=[v, .int n]/\ bq A H v D/\ dF s D/\ Q (.bl (below n (passages s))) H
theorem GW(T:Txt K mg A):Gd P w K mg base 2 A.EX A.MG ["self","number"] (abj A):=by
 refine T.Yp.go (N:=["self","number"]) ?_;rintro aC A' outer s H vs Q E hr nd ⟨v,D,s,n,rfl,hv,d,q⟩;refine⟨_,(ag (aB (zk j6 iq ak (pv 1) (dO hr (GU T) T.aF T.FP (pv 0))))),?_⟩;obtain⟨a,vs,rfl,S,p⟩:=id hv;unfold below at q;refine⟨_,U,_,_,U,U,_,U,b9 (λh=>?_) (λh=>?_)⟩
 ·refine⟨_,U,a.p,_,_,U,S.obj,U, .ref a.p,D,s,U,hv,d,_,_,U,U,?_⟩
  rw[decide_eq_true (of_decide_eq_true h),mV]at q;exact q
 ·rw[decide_eq_false λc=>h (decide_eq_true c),n8]at q
  exact q
theorem Pe(z:Int):gj (.int z) [.int 0, .int 1]=(z==0||z==1):=by
 unfold gj;simp only[n9,yd,qO];have e:∀m:Int,mf (.int m) (.int z)=(z==m):=λm=>by show(m==z)=(z==m);exact Bool.beq_comm
 rw[e 0,e 1]
def pd(s:Net)(zs:List Int):Bool:=zs.length==(junctions s).length&&zs.all λz=>z==0||z==1
def abk(A:aE):Sp:=λvs H Q _=>∃(v:V) (D:dn) (s:Net) (na:Addr) (zs:List Int),vs=[v, .ref na]/\ bq A H v D/\ dF s D/\ H na=some (.lst (zs.map V.int))/\ zs.length<=10000/\ ∀H',aa H H'->Q (.bl (pd s zs)) H'
theorem abl(T:Txt K mg A):Gd P w K mg base 1 A.EZ A.MI ["self","numbers"] (abk A):=by
 refine T.Yr.go (N:=["self","numbers","number"]) ?_;rintro aC A' outer s H vs Q E hr nd ⟨v,D,s,na,zs,rfl,⟨a,vs,rfl,S,p⟩,d,mK,hlen,q⟩;refine⟨_,(ag (aB (vN (lq cj (dw T.c6 (pv 1)) (ao (pv 0))) (rA (pY (Dg U) (by rfl) T.Fz DL (aj (mj U nd (eE (pv 1)) (jF (own:=[("number",2)]) (by show iS ["self","numbers","number"] (d5 (inClass (top 81) 10)) _ _=true;decide+kernel)) (λ_ _ _ _ _=>(cx 2 nd)) (λ_ _ _ _ _=>oN) (λ_ _ _ _ _=>(lq (Vs (K:=K) U) (pv 2) (gh (aY ak ak))))))))))),?_⟩;unfold pd at q;refine⟨_,U,na,_,U, .inl (ab.of mK),_,U,_,_,_,_,_,U,S.obj,T.aF,T.qm,U,U,_,U,?_⟩;rw[jH,aI,d.arr.jc];have e0:decide (zs.length=(junctions s).length)=(zs.length==(junctions s).length):=by rw[iG];simp
 rw[e0];cases hb:(zs.length==(junctions s).length)with
 |false=>rw[hb,n8]at q;exact aA (q H (aa.refl _))
 |true=>
  rw[hb,mV]at q;refine aJ ⟨_,U,na,U,⟨_,ab.of mK⟩,λL hL=>oS (λ_=>False) o_ o_.mono zs (λz=>some (z==0||z==1)) hL (Hid.none _) (by rw[aI];omega) (ab.of mK) (by rw[aI]) ?_ ?_⟩
  ·intro i H2 y z hy hz s2 aH Ky Kn mx hn
   obtain⟨z',mi,rfl⟩:=lu hy;have e:z'=z:=ay (mi.symm.trans hz);subst e;refine⟨U,oX ⟨_,U,gm,λt ht=>⟨t,_,U, .inr (bz.of ae),U,U,?_⟩⟩⟩;rw[show(if false=true then !gj (.int z') [.int 0, .int 1]else gj (.int z') [.int 0, .int 1])=(z'==0||z'==1)from Pe z'];exact mx _ _ _ U (aa.new ht) U
  ·intro H2 acc s2 cH aH bh
   rw[sY]at bh;have eacc:=Az bh;subst eacc;refine⟨L,_,U,ab.of cH,?_⟩;have eall:(zs.map λz=>z==0||z==1).all id=zs.all λz=>z==0||z==1:=by rw[List.all_map];rfl
   rw[eall];exact q _ s2
def jL(s:Net)(j l r:Nat):Prop:=(aQ s)[j]? =some (.tensor l r)\/(aQ s)[j]? =some (.par l r)
theorem jL.arr{s:Net}{D:dn}(d:dF s D){j l r:Nat}(h:jL s j l r):l=j+1/\ D.1.seconds[j]? =some (r:Int)/\ (∃k,(k=2\/k=3)/\ D.1.nodes[j]? =some (k,[]))/\ ∃i:Nat,D.1.switches[j]? =some (i:Int)/\ (junctions s)[i]? =some j:=by
 rcases h with h|h
 ·have a:=d.arr.lO (k:=2) (.inl ⟨h,U⟩)
  exact⟨a.2.1,a.2.2.1,⟨2, .inl U,a.1⟩,a.2.2.2⟩
 ·have a:=d.arr.lO (k:=3) (.inr ⟨h,U⟩)
  exact⟨a.2.1,a.2.2.1,⟨3, .inr U,a.1⟩,a.2.2.2⟩
def GX(A:aE):Sp:=λvs H Q _=>∃(v:V) (D:dn) (s:Net) (j l r:Nat) (b:Bool),vs=[v,nI j,dy b]/\ bq A H v D/\ dF s D/\ jL s j l r/\ Q (nI (if b=true then r else l)) H
theorem qD(T:Txt K mg A):Gd P w K mg base 1 A.E4 A.MM ["self","junction","side"] (GX A):=by
 refine T.Yv.go (N:=["self","junction","side"]) ?_;rintro aC A' outer s H vs Q E hr nd ⟨v,D,s,j,l,r,b,rfl,⟨a,vs,rfl,S,p⟩,d,hj,q⟩;refine⟨_,(ag (aB (kW (aR cj (pv 2) ak) (b_ jd (pv 1) ak) (aT (ao (pv 0)) (pv 1))))),?_⟩;obtain⟨e1,e2,_,_⟩:=hj.arr d;refine⟨_,U,U,_,U,?_⟩;cases b with
 |false=>refine aJ ⟨_,U,_,_,U,U,?_⟩;rw[if_neg (by simp),e1]at q;exact q
 |true=>rw[if_pos U]at q;exact aA ⟨_,U,_,_,_,_,_,U,S.obj,T.aF,T.Ad,U,_,U,a.l4,_,_,_,U,U,ab.of (S.get 4 U U),bH (fY e2),q⟩
theorem abm(b:Bool):(1:Int)-(if b=true then 1 else 0)=if(!b)=true then 1 else 0:=by cases b<;>rfl
def GY(A:aE):Sp:=λvs H Q _=>∃(v:V) (D:dn) (s:Net) (p j o:Nat) (b:Bool),vs=[v,nI p]/\ bq A H v D/\ dF s D/\ Vanetg.standOf (Vanetg.stands s) p= .tensor j o b/\ Q (nI o) H
theorem abn(T:Txt K mg A):Gd P w K mg base 2 A.E5 A.MN ["self","point"] (GY A):=by
 refine T.Yw.go (N:=["self","point"]) ?_;rintro aC A' outer s H vs Q E hr nd ⟨v,D,s,p,j,o,b,rfl,hv,d,cD,q⟩;refine⟨_,(ag (aB (bN hr (qD T) T.aF T.qi (pv 0) (aY (aT (ao (pv 0)) (pv 1)) (b_ rH ak (aT (ao (pv 0)) (pv 1))))))),?_⟩;obtain⟨a,vs,rfl,S,pp⟩:=id hv;obtain⟨b1,b2,l,r,hj,hb⟩:=d.arr.d9 cD;refine⟨_,U,a.p,_,_,U,S.obj,U,_,U,_,_,_,_,_,U,S.obj,T.aF,T.ql,U,_,U,a.l2,_,_,_,U,U,ab.of (S.get 2 U U),bH (fY b1),_,U,_,_,_,_,_,U,S.obj,T.aF,T.wK,U,_,U,a.l3,_,_,_,U,U,ab.of (S.get 3 U U),bH (fY b2),_,_,U,U, .ref a.p,D,s,j,l,r,!b,?_,hv,d, .inl hj,?_⟩
 ·show[V.ref a.p,V.int (j:Int),V.int (1-if b=true then 1 else 0)]=[V.ref a.p,nI j,dy (!b)]
  rw[abm];rfl
 ·cases b with
  |false=>rw[if_neg (by simp)]at hb;rw[show(!false)=true from rfl,if_pos U,<-hb.2];exact q
  |true=>rw[if_pos U]at hb;rw[show(!true)=false from rfl,if_neg (by simp),<-hb.2];exact q
theorem Pf{s:Net}{w:List Bool}(hw:w.length=(junctions s).length){i j:Nat}(hi:(junctions s)[i]? =some j):∃b,w[i]? =some b/\ switchAt (withSwitches s w) j=b:=by have hl:=dm hi;refine⟨w[i]'(by omega),br (by omega),?_⟩;exact IH (by rw[B_];exact B' _ _) hi (br (by omega))
def abo(A:aE):Sp:=λvs H Q _=>∃(v:V) (D:dn) (s:Net) (p:Nat) (wa:Addr) (w:List Bool),vs=[v,nI p, .ref wa]/\ bq A H v D/\ dF s D/\ p<(aQ s).length/\ H wa=some (.lst (w.map dy))/\ w.length=(junctions s).length/\ Q (nI (behindUp s (aQ s) (withSwitches s w) p)) H
theorem abp(T:Txt K mg A):Gd P w K mg base 2 A.E2 A.MK ["self","point","switching"] (abo A):=by
 refine T.Yt.go (N:=["self","point","switching"]) ?_;rintro aC A' outer s H vs Q E hr nd ⟨v,D,s,p,wa,w,rfl,hv,d,hp,fG,hw,q⟩;refine⟨_,(af (a9 (ij (dC (aP hr (mw T) T.mq (aj (aT (ao (pv 0)) (pv 1)))))) (ag (aB (aP hr (GS T) T.FR (aj (aT (ao (pv 0)) (pv 1)))))) bt)
  (ag (aB (aP hr (AN T) T.Ab (aj (bN hr (qD T) T.aF T.qi (pv 0) (aY (pv 1) (aT (pv 2) (aT (ao (pv 0)) (pv 1)))))))))),?_⟩
 obtain⟨a,vs,rfl,S,pp⟩:=id hv;obtain⟨nd',gb⟩:∃x,D.1.nodes[p]? =some x:=⟨_,br (by rw[d.arr.ln];exact hp)⟩
 obtain⟨nv,sE,g,u,rfl,hg,_⟩:=oR pp gb;have gO:=xp d nd' (bC gb);refine⟨_,U,_,_,_,_,_,U,S.obj,T.aF,T.ki,U,_,U,a.l0,_,_,_,U,U,ab.of (S.get 0 U U),bH sE,g,nd'.1,_,U,hg,_,U,?_⟩;rw[nG gO];have fH:(aQ s)[p]? =some (aQ s)[p]:=br hp;generalize (aQ s)[p]=pt at fH;have lO:∀l r,jL s p l r->behindUp s (aQ s) (withSwitches s w) p=Vanetg.up (if switchAt (withSwitches s w) p=true then r else l)->if(!bR nd')=true then(jC (iR uM [] E0 (d_ (cw (fU K) (ir K (aZ 0) "partners") (aZ 1)) eI))) {nx:=(jC (iR pb [] E0 (d_ (oF A.bM "part" (GX A) [] E0 (aZ 0) (d_ (aZ 1) (d_ (cw (fU K) (aZ 2) (cw (fU K) (ir K (aZ 0) "switches") (aZ 1))) eI))) eI))) {nx:=λ_ H'=>Q .aO H',rt:=Q},rt:=Q} [some (.ref a.p),some (nI p),some (.ref wa)] H else(jC (iR pb [] E0 (d_ (oF A.bM "part" (GX A) [] E0 (aZ 0) (d_ (aZ 1) (d_ (cw (fU K) (aZ 2) (cw (fU K) (ir K (aZ 0) "switches") (aZ 1))) eI))) eI))) {nx:=λ_ H'=>Q .aO H',rt:=Q} [some (.ref a.p),some (nI p),some (.ref wa)] H:=by
  intro l r hj eq;obtain⟨e1,e2,⟨k,hk,e3⟩,i,e4,e5⟩:=hj.arr d;have en:nd'=(k,[]):=ay (gb.symm.trans e3);have ej:bR nd'=true:=by rw[en];unfold bR;exact decide_eq_true (by show 2<=k;omega)
  obtain⟨b,hb1,xq⟩:=Pf hw e5;rw[ej];refine aA ⟨_,U,a.p,_,_,U,S.obj,U,_,U,_,U,_,U,_,_,_,_,_,U,S.obj,T.aF,T.wL,U,_,U,a.l5,_,_,_,U,U,ab.of (S.get 5 U U),bH (fY e4),wa,_,_,_,U,U,ab.of fG,bH (show(w.map dy)[i]? =some (dy b) by rw[ez,hb1];rfl), .ref a.p,D,s,p,l,r,b,U,hv,d,hj,_,U,?_⟩;rw[eq,xq]at q;exact q
 cases pt with
 |leaf=>
  obtain⟨⟨x,hx,qC⟩,gR⟩:=d.arr.leaf fH;have en:nd'=x:=ay (gb.symm.trans hx);have ej:bR nd'=false:=by rw[en];unfold bR;exact decide_eq_false (by omega)
  have eq:behindUp s (aQ s) (withSwitches s w) p=Vanetg.down (partner s p):=by unfold behindUp;rw[fH];rfl
  rw[eq]at q;rw[ej];exact aJ ⟨_,U,_,_,_,_,_,U,S.obj,T.aF,T.oT,U,_,U,a.l6,_,_,_,U,U,ab.of (S.get 6 U U),bH (fY gR),partner s p,U,q⟩
 |tensor l r=>exact lO l r (.inl fH) (by unfold behindUp;rw[fH])
 |par l r=>exact lO l r (.inr fH) (by unfold behindUp;rw[fH])
theorem dsw(b c:Bool):decide (dy b=dy c)=(b==c):=by cases b<;>cases c<;>rfl
def abt(A:aE):Sp:=λvs H Q _=>∃(v:V) (D:dn) (s:Net) (p:Nat) (wa:Addr) (w:List Bool),vs=[v,nI p, .ref wa]/\ bq A H v D/\ dF s D/\ p<(aQ s).length/\ H wa=some (.lst (w.map dy))/\ w.length=(junctions s).length/\ Q (nI (Vanetg.behindDown (Vanetg.stands s) (withSwitches s w) p)) H
theorem abu(T:Txt K mg A):Gd P w K mg base 3 A.E3 A.ML ["self","point","switching"] (abt A):=by
 refine T.Yu.go (N:=["self","point","switching","junction","switched"]) ?_;rintro aC A' outer s H vs Q E hr nd ⟨v,D,s,p,wa,w,rfl,hv,d,hp,fG,hw,q⟩;refine⟨_,(af (aN 3 nd (aT (ao (pv 0)) (pv 1)))
  (af (a9 (aR cj (pv 3) (il ip ak)) (ag (aB (aP hr (AN T) T.Ab (aj (aT (ao (pv 0)) (pv 1)))))) bt)
  (af (aN 4 nd (lq cj (aT (pv 2) (aT (ao (pv 0)) (pv 3))) (aT (ao (pv 0)) (pv 1))))
  (af (a9 (aR cj (cW (aT (ao (pv 0)) (pv 3)) ak) (aW T.wG)) (ag (aB (kW (dC (pv 4)) (aP hr (AN T) T.Ab (aj (bN hr (abn T) T.aF T.WX (pv 0) (aj (pv 1))))) (aP hr (GS T) T.FR (aj (pv 3)))))) bt)
  (ag (aB (kW (dC (pv 4)) (aP hr (GS T) T.FR (aj (pv 3))) (aP hr (AN T) T.Ab (aj (pv 1)))))))))),?_⟩
 obtain⟨a,vs,rfl,S,pp⟩:=id hv;unfold Vanetg.behindDown at q;have root:∀z:Nat,D.1.below[p]? =some (-1)->D.1.turns[p]? =some (z:Int)->Q (nI (Vanetg.up z)) H->_:=λz h1 h2 hq=>(⟨_,U,_,_,_,_,_,U,S.obj,T.aF,T.ql,U,_,U,a.l2,_,_,_,U,U,ab.of (S.get 2 U U),bH (fY h1),_,U,_,U,U,_,U,aJ ⟨_,U,_,_,_,_,_,U,S.obj,T.aF,T.oU,U,_,U,a.l7,_,_,_,U,U,ab.of (S.get 7 U U),bH (fY h2),z,U,hq⟩⟩:
  (fA (oE (cw (fU K) (ir K (aZ 0) "below") (aZ 1)) (ik 3)) (fA (rC (l_ (cw l9 (aZ 3) (ze (rU λi=> .int (-i)) (tC (.int 1))))) (jC (iR pb [] E0 (d_ (cw (fU K) (ir K (aZ 0) "turns") (aZ 1)) eI))) iQ) (fA (oE (cw l9 (cw (fU K) (aZ 2) (cw (fU K) (ir K (aZ 0) "switches") (aZ 3))) (cw (fU K) (ir K (aZ 0) "sides") (aZ 1))) (ik 4)) (fA (rC (l_ (cw l9 (cw (vZ K) (cw (fU K) (ir K (aZ 0) "nodes") (aZ 3)) (tC (.int 0))) (tC (.int 2)))) (jC (rB (tB (aZ 4)) (iR pb [] E0 (d_ (oF A.bM "beside" (GY A) [] E0 (aZ 0) (d_ (aZ 1) eI)) eI)) (iR uM [] E0 (d_ (aZ 3) eI)))) iQ) (jC (rB (tB (aZ 4)) (iR uM [] E0 (d_ (aZ 3) eI)) (iR pb [] E0 (d_ (aZ 1) eI)))))))) {nx:=λ_ H'=>Q .aO H',rt:=Q} [some (.ref a.p),some (nI p),some (.ref wa),none,none] H)
 have jn:∀(j k:Nat) (b:Bool) (l r:Nat),D.1.below[p]? =some (j:Int)->D.1.sides[p]? =some (if b=true then 1 else 0)->jL s j l r->D.1.nodes[j]? =some (k,[])->
   ((b==switchAt (withSwitches s w) j)=true->(k=2->Vanetg.standOf (Vanetg.stands s) p= .tensor j (if b=true then l else r) b/\ Q (nI (Vanetg.up (if b=true then l else r))) H)/\ (¬k=2->Q (nI (Vanetg.down j)) H))->((b==switchAt (withSwitches s w) j)=false->(k=2->Q (nI (Vanetg.down j)) H)/\ (¬k=2->Q (nI (Vanetg.up p)) H))->
   (fA (oE (cw (fU K) (ir K (aZ 0) "below") (aZ 1)) (ik 3)) (fA (rC (l_ (cw l9 (aZ 3) (ze (rU λi=> .int (-i)) (tC (.int 1))))) (jC (iR pb [] E0 (d_ (cw (fU K) (ir K (aZ 0) "turns") (aZ 1)) eI))) iQ) (fA (oE (cw l9 (cw (fU K) (aZ 2) (cw (fU K) (ir K (aZ 0) "switches") (aZ 3))) (cw (fU K) (ir K (aZ 0) "sides") (aZ 1))) (ik 4)) (fA (rC (l_ (cw l9 (cw (vZ K) (cw (fU K) (ir K (aZ 0) "nodes") (aZ 3)) (tC (.int 0))) (tC (.int 2)))) (jC (rB (tB (aZ 4)) (iR pb [] E0 (d_ (oF A.bM "beside" (GY A) [] E0 (aZ 0) (d_ (aZ 1) eI)) eI)) (iR uM [] E0 (d_ (aZ 3) eI)))) iQ) (jC (rB (tB (aZ 4)) (iR uM [] E0 (d_ (aZ 3) eI)) (iR pb [] E0 (d_ (aZ 1) eI)))))))) {nx:=λ_ H'=>Q .aO H',rt:=Q} [some (.ref a.p),some (nI p),some (.ref wa),none,none] H:=by
  intro j k b l r h1 h2 hj h3 ht hf;obtain⟨_,_,_,i,e4,e5⟩:=hj.arr d;obtain⟨c,mv,jI⟩:=Pf hw e5;rw[jI]at ht hf;obtain⟨nv,sE,g,u,rfl,hg,_⟩:=oR pp h3;refine⟨_,U,_,_,_,_,_,U,S.obj,T.aF,T.ql,U,_,U,a.l2,_,_,_,U,U,ab.of (S.get 2 U U),bH (fY h1),_,U,_,U,U,_,U,?_⟩;rw[uv,decide_eq_false (by omega)];refine aA ⟨_,U,_,U,_,_,_,_,_,U,S.obj,T.aF,T.wL,U,_,U,a.l5,_,_,_,U,U,ab.of (S.get 5 U U),bH (fY e4),wa,_,_,_,U,U,ab.of fG,bH (show(w.map dy)[i]? =some (dy c) by rw[ez,mv];rfl),_,U,_,_,_,_,_,U,S.obj,T.aF,T.wK,U,_,U,a.l3,_,_,_,U,U,ab.of (S.get 3 U U),bH (fY h2),U,?_⟩;rw[show decide (dy c=V.int (if b=true then 1 else 0))=(b==c) by rw[show V.int (if b=true then 1 else 0)=dy b from rfl,dsw];exact Bool.beq_comm];refine⟨_,U,_,_,_,_,_,U,S.obj,T.aF,T.ki,U,_,U,a.l0,_,_,_,U,U,ab.of (S.get 0 U U),bH sE,_,_,_,_,U,U,bz.of hg,bT,U,_,U,?_⟩;show if decide (V.int (k:Int)=V.int ((2:Nat):Int))=true then _ else _;rw[jH];refine b9 (λh=>?_) (λh=>?_)
  ·have ek:=of_decide_eq_true h
   refine⟨_,U,_,U,?_⟩;cases sF:(b==c)with
   |true=>have hq:=(ht sF).1 ek;exact aJ ⟨_,U,a.p,_,_,U,S.obj,U,_,U, .ref a.p,D,s,p,j,_,b,U,hv,d,hq.1,_,U,hq.2⟩
   |false=>exact aA ⟨_,U,j,U,(hf sF).1 ek⟩
  ·have ek:¬k=2:=λz=>h (decide_eq_true z)
   refine⟨_,U,_,U,?_⟩;cases sF:(b==c)with
   |true=>exact aJ ⟨_,U,j,U,(ht sF).2 ek⟩
   |false=>exact aA ⟨_,U,p,U,(hf sF).2 ek⟩
 cases cD:Vanetg.standOf (Vanetg.stands s) p with
 |concl=>rw[cD]at q;obtain⟨h1,h2⟩:=d.arr.concl hp cD;exact root p h1 h2 q
 |cut z=>rw[cD]at q;obtain⟨h1,h2⟩:=d.arr.cut hp cD;exact root z h1 h2 q
 |tensor j o b=>
  rw[cD]at q;obtain⟨h1,h2,l,r,hj,hb⟩:=d.arr.d9 cD;have hn:=(d.arr.lO (k:=2) (.inl ⟨hj,U⟩)).1;have eo:o=if b=true then l else r:=by
   cases b with
   |false=>rw[if_neg (by simp)]at hb⊢;exact hb.2
   |true=>rw[if_pos U]at hb⊢;exact hb.2
  have q:Q (nI (if b=switchAt (withSwitches s w) j then Vanetg.up o else Vanetg.down j)) H:=q;refine jn j 2 b l r h1 h2 (.inl hj) hn (λh=>⟨λ_=>⟨by rw[<-eo];exact cD,?_⟩,λc=>absurd U c⟩) (λh=>⟨λ_=>?_,λc=>absurd U c⟩)
  ·rw[if_pos (beq_iff_eq.mp h),eo]at q;exact q
  ·rw[if_neg (beq_eq_false_iff_ne.mp h)]at q;exact q
 |par j b=>
  rw[cD]at q;obtain⟨h1,h2,l,r,hj⟩:=d.arr.par cD;have hn:=(d.arr.lO (k:=3) (.inr ⟨hj,U⟩)).1;have q:Q (nI (if b=switchAt (withSwitches s w) j then Vanetg.down j else Vanetg.up p)) H:=q;refine jn j 3 b l r h1 h2 (.inr hj) hn (λh=>⟨λc=>by omega,λ_=>?_⟩) (λh=>⟨λc=>by omega,λ_=>?_⟩)
  ·rw[if_pos (beq_iff_eq.mp h)]at q;exact q
  ·rw[if_neg (beq_eq_false_iff_ne.mp h)]at q;exact q
abbrev nx(s:Net)(w:List Bool)(a:Nat):Nat:=lM s (withSwitches s w) a
def abv(A:aE):Sp:=λvs H Q _=>∃(v:V) (D:dn) (s:Net) (p:Nat) (wa:Addr) (w:List Bool),vs=[v,nI p, .ref wa]/\ bq A H v D/\ dF s D/\ p<2*(aQ s).length/\ H wa=some (.lst (w.map dy))/\ w.length=(junctions s).length/\ Q (nI (nx s w p)) H
theorem GZ(T:Txt K mg A):Gd P w K mg base 4 A.E1 A.MJ ["self","passage","switching"] (abv A):=by
 refine T.Ys.go (N:=["self","passage","switching"]) ?_;rintro aC A' outer s H vs Q E hr nd ⟨v,D,s,p,wa,w,rfl,hv,d,hp,fG,hw,q⟩;refine⟨_,(af (a9 (aR cj (b_ SJ (pv 1) ak) ak) (ag (aB (bN hr (abp T) T.aF T.WV (pv 0) (aY (b_ J6 (pv 1) ak) (pv 2))))) bt)
  (ag (aB (bN hr (abu T) T.aF T.WW (pv 0) (aY (b_ J6 (pv 1) ak) (pv 2)))))),?_⟩
 obtain⟨a,vs,rfl,S,pp⟩:=id hv;have hdiv:(p:Int)/2=((p/2:Nat):Int):=by omega
 unfold nx lM at q;refine⟨_,U,_,_,U,U,(by show(0:Int)<2;decide),U,_,U,?_⟩;rw[uv];refine b9 (λh=>?_) (λh=>?_)
 ·have e:p%2=0:=by have:=of_decide_eq_true h;omega
  rw[if_pos e]at q;exact⟨_,U,a.p,_,_,U,S.obj,U,_,U,_,_,U,U,⟨by decide,by decide⟩,_,U, .ref a.p,D,s,p/2,wa,w,by show[V.ref a.p,V.int ((p:Int)/2),V.ref wa]=_;rw[hdiv];rfl,hv,d,by omega,fG,hw,q⟩
 ·have e:¬p%2=0:=λc=>h (decide_eq_true (by omega))
  rw[if_neg e]at q;exact⟨_,U,a.p,_,_,U,S.obj,U,_,U,_,_,U,U,⟨by decide,by decide⟩,_,U, .ref a.p,D,s,p/2,wa,w,by show[V.ref a.p,V.int ((p:Int)/2),V.ref wa]=_;rw[hdiv];rfl,hv,d,by omega,fG,hw,q⟩
def abw(A:aE):Sp:=λvs H Q _=>∃(v:V) (D:dn) (s:Net) (p:Nat) (wa:Addr) (w:List Bool),vs=[v,nI p, .ref wa]/\ bq A H v D/\ dF s D/\ p<2*(aQ s).length/\ H wa=some (.lst (w.map dy))/\ w.length=(junctions s).length/\ iV H Q ((Vanetg.trip s w p).map nI)
theorem AO(T:Txt K mg A):Gd P w K mg base 5 A.E6 A.MO ["self","passage","switching"] (abw A):=by
 refine T.Yx.go (N:=["self","passage","switching","met","at"]) ?_;rintro aC A' outer s H vs Q E hr nd ⟨v,D,s,p,wa,w,rfl,hv,d,hp,fG,hw,q⟩;refine⟨_,(af (aN 3 nd (aS (aj (pv 1))))
  (af (aN 4 nd (bN hr (GZ T) T.aF T.FQ (pv 0) (aY (pv 1) (pv 2))))
  (af (j3 PassesOwn.never (aR t5 (pv 4) (pv 1)) (af (bF (dD (pv 3) (pv 4)))
  (ag (aN 4 nd (bN hr (GZ T) T.aF T.FQ (pv 0) (aY (pv 4) (pv 2)))))))
  (ag (aB (pv 3)))))),?_⟩
 obtain⟨a,vs,rfl,S,pp⟩:=id hv;obtain⟨k,k1,k2,k3,k4,k5⟩:=B1 d.good w hp;have uN:=d.bd;have k2:k<=2*(aQ s).length:=k2;have hf:∀a,a<2*(aQ s).length->nx s w a<2*(aQ s).length:=λa ha=>(BZ d.good _ ha).2;rw[k5]at q;refine⟨_,U,cu,λl hl=>?_⟩;have s1:=aa.new (o:= .lst [nI p]) hl;have jj:=bq.mono _ _ _ _ s1 hv;refine⟨_,U,a.p,_,_,U,s1 _ _ S.obj,U,_,U,_,U, .ref a.p,D,s,p,wa,w,U,jj,d,hp,s1 _ _ fG,hw,?_⟩;obtain⟨W,hW⟩:∃W:Nat->L2.St->Hp->Prop,W=λm σ' H'=>∃j:Nat,m=k-j/\ 1<=j/\ j<=k/\ σ'=[some (.ref a.p),some (nI p),some (.ref wa),some (.ref l),some (nI (cZ (nx s w) j p))]/\ aa H H'/\ H' l=some (.lst (((List.range j).map λi=>cZ (nx s w) i p).map nI)):=⟨_,U⟩
 refine⟨W,⟨_,by rw[hW];exact⟨1,U,aM _,k1,U,s1,ae⟩⟩,λm σ' H' w'=>?_⟩;rw[hW]at w';obtain⟨j,rfl,j1,j2,rfl,sm,G0⟩:=w';refine⟨_,U,_,U,U,_,U,?_⟩;rw[show decide (nI (cZ (nx s w) j p)=nI p)=decide (cZ (nx s w) j p=p)from jH _ _];by_cases hj:cZ (nx s w) j p=p
 ·have ejk:j=k:=by
   rcases og j k with c|c
   ·exact absurd hj (k4 j j1 c)
   ·omega
  rw[decide_eq_true hj];refine aA ⟨_,U,q l H' sm hl ?_⟩;rw[G0,ejk]
 ·rw[decide_eq_false hj]
  have jlt:j<k:=by
   rcases og j k with c|c
   ·exact c
   ·exfalso;apply hj;rw[show j=k by omega];exact k3
  refine aJ ⟨λσ' H'=>∃m',m'<k-j/\ W m' σ' H',λ_ _ h=>h,?_⟩;refine⟨_,U, .inl ⟨U,_,ab.of G0⟩,_,U,l,_,_,U,U,G0,dk (by simp;omega),?_⟩;have s2:=c5 (o:= .lst (((List.range j).map λi=>cZ (nx s w) i p).map nI++[nI (cZ (nx s w) j p)])) sm hl;refine⟨_,U,a.p,_,_,U,s2 _ _ S.obj,U,_,U,_,U, .ref a.p,D,s,cZ (nx s w) j p,wa,w,U,bq.mono _ _ _ _ s2 hv,d,tH hf hp j,s2 _ _ fG,hw,k-(j+1),by omega,?_⟩;rw[hW];refine⟨j+1,U,by omega,by omega,U,s2,?_⟩;rw[ae,sT];simp
def nQ(H:Hp)(v:V)(w:List Bool):Prop:=∃a,v= .ref a/\ H a=some (.lst (w.map dy))
theorem nQ.mono:eP nQ:=λ_ _ _ _ s ⟨a,e,h⟩=>⟨a,e,s _ _ h⟩
def abx:Sp:=λvs H Q _=>∃(n:Nat),vs=[nI n]/\ n<=8/\ ∀v' H',aa H H'->cS nQ H' v' (switchings n)->Q v' H'
theorem aby{i:Nat}(h:i<=8):2^i<=256:=by
 calc 2^i<=2^8:=Nat.pow_le_pow_right (by decide) h
  _=256:=rfl
theorem abz(T:Txt K mg A):Gd P w K mg base 1 A.Fc A.MX ["count"] abx:=by
 refine T.YF.go (N:=["count","found","junction","longer","switching"]) ?_;rintro aC A' outer s H vs Q E hr nd ⟨n,rfl,hn,q⟩;refine⟨_,(af (aN 1 nd (aS (aj (aS bY))))
  (af (eZ PassesOwn.never U (J2 (by rfl) T.z6 (aj (pv 0))) (cx 2 nd) (af (aN 3 nd (aS bY))
  (af (eZ PassesOwn.never U (eE (pv 1)) (cx 4 nd) (af (bF (dD (pv 3) (b_ gz (pv 4) (aS (aj ak)))))
  (ag (bF (dD (pv 3) (b_ gz (pv 4) (aS (aj ak))))))))
  (ag (aN 1 nd (pv 3))))))
  (ag (aB (pv 1))))),?_⟩
 refine⟨bj _,λe he=>⟨cu,λf hf=>?_⟩⟩;have s1:aa H (upd (upd H e (.lst [])) f (.lst [.ref e])):=(aa.new he).trans (aa.new hf);refine⟨_,U,(n:Int),U,by omega,by omega,?_⟩;rw[iZ];refine J5 (n:=n) (λi σ' H'=>∃(fa:Addr) (u v w:Option V) (xs:List V),σ'=[some (nI n),some (.ref fa),u,v,w]/\ aa H H'/\ H' fa=some (.lst xs)/\ Paired (nQ H') xs (switchings i)) ⟨f,none,none,none,_,U,s1,ae,qc ⟨e,U,(aa.new hf) _ _ ae⟩⟩ ?_ ?_
 ·rintro i σ' H' hi ⟨fa,u,v,w,xs,rfl,sm,fF,cg⟩
  have jh:=ck cg;rw[Co]at jh;have hpw:=aby (i:=i) (by omega);refine⟨bj _,λl hl=>?_⟩;have s2:=aa.new (o:= .lst []) hl;refine⟨_,U,fa,U,⟨_,ab.of (s2 _ _ fF)⟩,gL (xs:=xs) (λj σ2 H2=>∃(u:Option V) (ys:List V),σ2=[some (nI n),some (.ref fa),some (.int (0+(i:Int))),some (.ref l),u]/\ aa H' H2/\ H2 l=some (.lst ys)/\ Paired (nQ (Wo (λb=>b=l) H2)) ys (((switchings i).take j).flatMap λw=>[w++[false],w++[true]])/\ ys.length=2*j)
   ⟨w,[],U,s2,ae, .nil,U⟩ (λj σ2 H2 _ ⟨_,_,_,jM,_⟩=>ab.of (jM _ _ fF)) ?_ ?_⟩
  ·rintro j x σ2 H2 hx ⟨u,ys,rfl,jM,fh,lB,h_⟩
   obtain⟨bw,Pg,g,rfl,hg⟩:=fB cg hx;have hj:=dm hx;have hbl:=vD i bw (bC Pg);have aH:Hid (λb=>b=l) H2:=λb hb e=>by rw[hb,fh]at e;cases e
   have kx:=jM _ _ hg;have ngl:g≠l:=bS hg hl;refine⟨_,U, .inl ⟨U,_,ab.of fh⟩,_,U,cu,λm hm=>?_⟩;have s3:=aa.new (o:= .lst [V.int 0]) hm;refine⟨g,m,_,_,U,U,s3 _ _ kx,ae,fC (by simp;omega),λc hc=>?_⟩;have s4:=aa.new (o:= .lst (bw.map dy++[V.int 0])) hc;have xr:=s3.trans s4;have hcw:Wo (λb=>b=l) (upd (upd H2 m (.lst [V.int 0])) c (.lst (bw.map dy++[V.int 0]))) c=some (.lst (bw.map dy++[V.int 0])):=e9 (aH.mono s3) hc;refine⟨l,_,_,U,U,xr _ _ fh,dk (by omega),?_⟩;have w34:=bV (P:=λb=>b=l) xr;have eW:∀o,Wo (λb=>b=l) (upd (upd (upd H2 m (.lst [V.int 0])) c (.lst (bw.map dy++[V.int 0]))) l o)=Wo (λb=>b=l) (upd (upd H2 m (.lst [V.int 0])) c (.lst (bw.map dy++[V.int 0]))):=λo=>dP U;have abB:=(aH.mono xr)
   have GG:∀o,upd (upd (upd H2 m (.lst [V.int 0])) c (.lst (bw.map dy++[V.int 0]))) l o g=some (.lst (bw.map dy)):=λo=>by rw[aD ngl];exact xr _ _ kx
   have sm4:∀o,aa H' (upd (upd (upd H2 m (.lst [V.int 0])) c (.lst (bw.map dy++[V.int 0]))) l o):=λo=>c5 (jM.trans xr) hl;have abD:∀o,Hid (λb=>b=l) (upd (upd (upd H2 m (.lst [V.int 0])) c (.lst (bw.map dy++[V.int 0]))) l o):=λo=>abB.upd;refine⟨_,U, .inl ⟨U,_,ab.of ae⟩,_,U,cu,λm2 om=>?_⟩;have s5:=aa.new (o:= .lst [V.int 1]) om;refine⟨g,m2,_,_,U,U,s5 _ _ (GG _),ae,fC (by simp;omega),λc2 jI=>?_⟩;have s6:=aa.new (o:= .lst (bw.map dy++[V.int 1])) jI;have mD:=s5.trans s6;refine⟨l,_,_,U,U,mD _ _ ae,dk (by simp;omega),_,(ys++[.ref c])++[.ref c2],U,c5 ((sm4 _).trans mD) hl,ae,?_,by simp;omega⟩;rw[dP (P:=λb=>b=l) U,iy Pg,px,fK ys];have w56:=bV (P:=λb=>b=l) mD;rw[eW]at w56;refine qb (bO (λ_ _ r=>nQ.mono _ _ _ _ (w34.trans w56) r) lB) ?_;refine .cons ⟨c,U,?_⟩ (.cons ⟨c2,U,?_⟩ .nil)
   ·rw[w56 _ _ hcw,gD];rfl
   ·rw[e9 ((abD _).mono s5) jI,gD];rfl
  ·rintro σ2 H2 ⟨u,ys,rfl,jM,fh,lB,h_⟩
   have abE:=ck cg;rw[abE,kK,<-Jh]at lB;exact⟨_,U,l,_,_,_,ys,U,sm.trans jM,fh,bO (λ_ _ r=>nQ.mono _ _ _ _ (bB _ _) r) lB⟩
 ·rintro σ' H' ⟨fa,u,v,w,xs,rfl,sm,fF,cg⟩
  exact⟨_,U,q _ _ sm ⟨fa,xs,U,fF,cg⟩⟩
def mL(s:Net)(w:List Bool):Bool:=decide ((Vanetg.trip s w 0).length<2*(aQ s).length)
def abF(A:aE):Sp:=λvs H Q _=>∃(v:V) (D:dn) (s:Net),vs=[v]/\ bq A H v D/\ dF s D/\ 0<(aQ s).length/\ (junctions s).length<=8/\ ∀v' H',aa H H'->gP nQ H' v' ((switchings (junctions s).length).find? (mL s))->Q v' H'
theorem Ph(T:Txt K mg A):Gd P w K mg base 6 A.Fd A.MY ["points"] (abF A):=by
 refine T.YG.go (N:=["points","switching"]) ?_;rintro aC A' outer s H vs Q E hr nd ⟨v,D,s,rfl,hv,d,afd,hj,q⟩;refine⟨_,(af (eZ PassesOwn.never U (eE (aP hr (abz T) T.W2 (aj (ao (pv 0))))) (cx 1 nd) (ag (a9 (aR iq (dw T.c6 (bN hr (AO T) T.aF T.Aa (pv 0) (aY ak (pv 1)))) (dO hr (GU T) T.aF T.FP (pv 0))) (ag (aB (pv 1))) bt)))
  (ag (aB i_))),?_⟩
 obtain⟨a,vs,rfl,S,pp⟩:=id hv;have uN:=d.bd;refine⟨_,U,_,_,_,_,_,U,S.obj,T.aF,T.qm,U,(junctions s).length,by rw[d.arr.jc];rfl,hj,λv1 H1 s1 h1=>?_⟩;obtain⟨fa,xs,rfl,fF,cg⟩:=h1;have jh:=ck cg;refine⟨fa,U,⟨_,ab.of fF⟩,gL (xs:=xs) (λi σ' H'=>∃u,σ'=[some (.ref a.p),u]/\ aa H1 H'/\ (switchings (junctions s).length).find? (mL s)=((switchings (junctions s).length).drop i).find? (mL s)) ⟨none,U,aa.refl _,by rw[kL]⟩ (λi σ' H' _ ⟨_,_,sm,_⟩=>ab.of (sm _ _ fF)) ?_ ?_⟩
 ·rintro i x σ' H' hx ⟨u,rfl,sm,hf⟩
  obtain⟨w,hw,g,rfl,hg⟩:=fB cg hx;have hi:=dm hw;have j_:=vD _ w (bC hw);have hd:(switchings (junctions s).length).drop i=w::(switchings (junctions s).length).drop (i+1):=by have e:=(cP.mp hw).2;rw[jP hi,e]
  rw[hd,n6]at hf;have xu:=s1.trans sm;refine⟨_,U,a.p,_,_,U,xu _ _ S.obj,U,_,U, .ref a.p,D,s,0,g,w,U,bq.mono _ _ _ _ xu hv,d,by omega,sm _ _ hg,j_,λt H2 s2 _ ht=>?_⟩;have jM:=xu.trans s2;refine⟨t,_,U, .inl (ab.of ht),_,U,a.p,_,_,U,jM _ _ S.obj,U, .ref a.p,D,s,U,bq.mono _ _ _ _ jM hv,d,_,_,U,U,_,U,?_⟩;have e0:decide ((((Vanetg.trip s w 0).map nI).length:Int)<(passages s:Int))=mL s w:=by unfold mL;rw[aI];exact decide_eq_decide.mpr (by unfold passages aQ;omega)
  rw[e0];cases zB:mL s w with
  |true=>rw[zB]at hf;refine aJ ⟨_,U,q _ _ jM ?_⟩;rw[hf];exact⟨g,U,s2 _ _ (sm _ _ hg)⟩
  |false=>rw[zB]at hf;exact aA ⟨_,U,sm.trans s2,hf⟩
 ·rintro σ' H' ⟨u,rfl,sm,hf⟩
  rw[jh,lG]at hf;refine q _ _ (s1.trans sm) ?_;rw[hf];rfl
def abG(A:aE):Sp:=λvs H Q _=>∃(v:V) (D:dn) (s:Net),vs=[v]/\ bq A H v D/\ dF s D/\ (junctions s).length<=8/\ ∀H',aa H H'->Q (.bl (allLong s)) H'
theorem abH(n:Nat):switchings n≠ []:=by intro h;have:=Co n;rw[h]at this;have h2:=Nat.two_pow_pos n;rw[kI]at this;omega
theorem abI{s:Net}(g:Good s)(hp:0<(aQ s).length):allLong s=((switchings (junctions s).length).find? (mL s)).isNone:=by
 unfold allLong;have e:∀w,Vanetg.long s w= !mL s w:=λw=>Ji g w hp;generalize switchings (junctions s).length=l;induction l with
 |nil=>rfl
 |cons w r ih=>
  rw[iB,e w,n6];cases mL s w with
  |true=>rfl
  |false=>simp only[xX,mV];exact ih
theorem abJ{s:Net}(hp:(aQ s).length=0):allLong s=false:=by
 unfold allLong;have e:∀w,Vanetg.long s w=false:=λw=>by
  unfold Vanetg.long;have:(Vanetc.points s).isEmpty=true:=by have:Vanetc.points s=[]:=uX.mp hp;rw[this];rfl
  rw[this];rfl
 cases h:switchings (junctions s).length with
 |nil=>exact absurd h (abH _)
 |cons w r=>rw[iB,e w];rfl
theorem abK(T:Txt K mg A):Gd P w K mg base 7 A.Fe A.MZ ["points"] (abG A):=by
 refine T.YH.go (N:=["points"]) ?_;rintro aC A' outer s H vs Q E hr nd ⟨v,D,s,rfl,hv,d,hj,q⟩;refine⟨_,(ag (aB (vN (bN hr (GW T) T.aF T.FO (pv 0) (aj ak)) (rA (lq rK (aP hr (Ph T) T.NN (aj (pv 0))) i_))))),?_⟩;obtain⟨a,vs,rfl,S,pp⟩:=id hv;refine⟨_,U,a.p,_,_,U,S.obj,U, .ref a.p,D,s,0,U,hv,d,_,U,?_⟩;by_cases hp:0<(aQ s).length
 ·have e:below 0 (passages s)=true:=by
   unfold below passages;have hp:0<(Vanetc.points s).length:=hp;rw[decide_eq_true (by omega),decide_eq_true (by omega)];rfl
  rw[e];refine aJ ⟨_,U, .ref a.p,D,s,U,hv,d,hp,hj,λv1 H1 s1 h1=>⟨U,?_⟩⟩;have:=q H1 s1;rw[abI d.good hp]at this;rw[xg (R:=nQ) (λx h=>by obtain⟨g,rfl,_⟩:=h;intro z;cases z) h1];exact this
 ·have hp:(aQ s).length=0:=by omega
  have e:below 0 (passages s)=false:=by unfold below passages;have hp:(Vanetc.points s).length=0:=hp;rw[decide_eq_false (p:=(0:Int)<((2*(Vanetc.points s).length:Nat):Int)) (by omega),n_]
  rw[e];have:=q H (aa.refl _);rw[abJ hp]at this;exact aA this
end
end PP
namespace PySem
theorem abL:typeLookup (.type "list_reverseiterator") "__len__"=pure none:=by rw[typeLookup_type,builtinLookup_eq_fast];kernel_rfl
theorem abM:typeLookup (.type "list_reverseiterator") "__length_hint__"=pure (some (.builtin "list_reverseiterator.__length_hint__")):=by rw[typeLookup_type,builtinLookup_eq_fast];kernel_rfl
section
variable{prog:Program}{w:World}{A:Around}{E:Value->Shared->Prop}{s:Shared}
theorem abN{it l:Addr}{i:Int}{Q:Bool->Shared->Prop}(hit:s.heap.IsRevIter it l i)(h:Q false s):wpAny (model prog w) A (Builtin.List.listLengthHint (.ref it)) Q E s:=by
 unfold Builtin.List.listLengthHint;refine wpAny_bind (wpAny_specialOf hit.typeIs abL ?_);refine wpAny_bind (m:=specialOf (Value.ref it) (Str.ofString "__length_hint__")) (wpAny_specialOf hit.typeIs abM ?_);generalize aH:("list_reverseiterator.__length_hint__":String)=id0
 wp_delta
 rw[show splitId id0=some ("list_reverseiterator","__length_hint__")from by subst aH;decide+kernel];subst aH;refine wpAny_bind (wpAny_isInstance (T:="list_reverseiterator") (b:=true) hit.typeIs (by rw[isSubtype_type];kernel_rfl) ?_);refine wpAny_ite_split (λg_=>absurd g_ (by decide)) (λ_=>?_);refine wpAny_ite_split (λ_=>?_) (λg_=>absurd (by decide+kernel) g_);refine wpAny_ite_split (λg_=>absurd g_ (by decide+kernel)) (λ_=>?_);exact wpAny_pure h
theorem abP{R:Result->Shared->Prop}{it l:Addr}{items:Array Value}(hh:A.handled=none)(hit:s.heap.IsRevIter it l ((items.size:Int)-1))(hl:s.heap.IsList l items)(xw:l≠it)(hn:items.size<=sizeLine)(S:Addr)(hSi:S≠it)(hSl:S≠l)(res:Value)(c₀:Nat)(hS:s.heap.get? S=some {cls:= .type "list",data:= .seq #[] c₀})
  (hR:∀h' tk acc' c',(∀b o,b≠S->b≠it->s.heap.get? b=some o->h'.get? b=some o)->h'.get? S=some {cls:= .type "list",dict:=none,data:= .seq acc' c',slots:= #[]}->
   ItemsOf (λi v=>items[items.size-1-i]? =some v) acc' items.size->R (.ok (.ret res)) {s with heap:=h',toks:=tk}):
  wpAny (model prog w) A.in1 (Builtin.List.listExtendWith (.ref S) (.ref it) res)
   (λfin s'=>match fin with| .done f=>R (.ok f) s'| .again c'=>c'.quiet=true/\ codeAny (model prog w) A c' R s') (λe s'=>R (.error e) s') s:=by
 have W:=(Walks.listRev (prog:=prog) (w:=w) (A:=A.in1) hh it l xw items).toS;unfold Builtin.List.listExtendWith;refine wpAny_bind (wpAny_typeOf (T:="list_reverseiterator") hit.typeIs ?_);have h1:Builtin.List.listSameRef (.ref S) (.ref it)=false:=by simp[Builtin.List.listSameRef,hSi]
 have h2:(Value.type "list_reverseiterator"==Value.type "list")=false:=by decide
 have h3:(Value.type "list_reverseiterator"==Value.type "tuple")=false:=by decide
 simp only[h1,h2,h3,qO,pz,if_false];refine wpAny_bind (wpAny_pyIter_revIter hit ?_);refine wpAny_bind (wpAny_holding (abN hit ?_));refine wpAny_ite_split (λg_=>absurd g_ (by decide+kernel)) (λ_=>wpAny_pure ⟨plainId_quiet F.plain_extend_loop _,?_⟩);refine codeAny_extend_loopS W hn S (by simp;exact⟨hSi,hSl⟩) res items.size 0 _ #[] c₀ U (bj _) ⟨bj _,by simpa using hit,hl⟩ hS (ItemsOf.nil _) λs' acc' c' hm xx cH=>?_;rw[Moved.eq_with hm];exact hR s'.heap s'.toks acc' c' (λb o hb xq e=>hm.heap b o (by simp;exact⟨hb,xq⟩) e) xx cH
theorem abQ{R:Result->Shared->Prop}{it l:Addr}{items:Array Value}(hh:A.handled=none)(hit:s.heap.IsRevIter it l ((items.size:Int)-1))(hl:s.heap.IsList l items)(xw:l≠it)(hn:items.size<=sizeLine)(S:Addr)(hSi:S≠it)(hSl:S≠l)(hS:s.heap.get? S=some {cls:= .type "list",data:= .seq #[]})
  (hR:∀h' tk acc' c',(∀b o,b≠S->b≠it->s.heap.get? b=some o->h'.get? b=some o)->h'.get? S=some {cls:= .type "list",dict:=none,data:= .seq acc' c',slots:= #[]}->
   ItemsOf (λi v=>items[items.size-1-i]? =some v) acc' items.size->R (.ok (.ret .none)) {s with heap:=h',toks:=tk}):
  wpAny (model prog w) A.in1 (Builtin.«list.__init__» ⟨[.ref S, .ref it],[]⟩)
   (λfin s'=>match fin with| .done f=>R (.ok f) s'| .again c'=>c'.quiet=true/\ codeAny (model prog w) A c' R s') (λe s'=>R (.error e) s') s:=by
 show wpAny _ _ (do let old<-Builtin.List.listItems (.ref S);Builtin.List.listUpdate (.ref S) (λ_=> #[]);letGo old.toList.reverse;Builtin.List.listExtendWith (.ref S) (.ref it) .none) _ _ s;refine wpAny_bind ?_;unfold Builtin.List.listItems;refine wpAny_bind (wpAny_seqItems hS U (wpAny_pure ?_));show wpAny _ _ (updateSeq S (λ_=> #[])>>=λ_=>letGo (#[]:Array Value).toList.reverse>>=λ_=>Builtin.List.listExtendWith (.ref S) (.ref it) .none) _ _ s;refine wpAny_bind (wpAny_updateSeq hS U ?_);have hS₂:=Heap.get?_update_self (Obj.mapSeq (λ_=>(#[]:Array Value))) hS U;have oth:∀b o,b≠S->s.heap.get? b=some o->(s.heap.update S (Obj.mapSeq (λ_=>(#[]:Array Value)))).get? b=some o:=λb o hb e=>(Heap.get?_update_other _ _ (Ne.symm hb)).trans e
 refine wpAny_bind (wpAny_letGo ?_);refine abP hh (hit.at λo e=>oth it o (Ne.symm hSi) e) (by obtain⟨o,e,r⟩:=hl;exact⟨o,oth l o (Ne.symm hSl) e,r⟩) xw hn S hSi hSl .none _ hS₂ λh' tk acc' c' hk xx cH=>?_;exact hR h' tk acc' c' (λb o hb xq e=>hk b o hb xq (oth b o hb e)) xx cH
theorem abR{Q:Value->Shared->Prop}{it l:Addr}{items:Array Value}(hh:A.handled=none)(hit:s.heap.IsRevIter it l ((items.size:Int)-1))(hl:s.heap.IsList l items)(xw:l≠it)(hn:items.size<=sizeLine)
  (hQ:∀h' tk acc' c',(∀b o,b≠it->s.heap.get? b=some o->h'.get? b=some o)->
   h'.get? s.heap.objs.size=some {cls:= .type "list",dict:=none,data:= .seq acc' c',slots:= #[]}->ItemsOf (λi v=>items[items.size-1-i]? =some v) acc' items.size->Q (.ref s.heap.objs.size) {s with heap:=h',toks:=tk}):
  wpAny (model prog w) A (call (.type "list") [.ref it]) Q E s:=by
 refine callType_codes (Q₁:=λobj s₁=>obj= .ref s.heap.objs.size/\ s₁={s with heap:=s.heap.push {cls:= .type "list",data:= .seq #[]}}) F.called_list (F.typeCall_list_1 _) F.entry_list_init
  (code_list_new _ ⟨U,U⟩) λobj s₁ h₁=>?_
 obtain⟨rfl,rfl⟩:=h₁;have hS:(s.heap.push {cls:= .type "list",data:= .seq #[]}).get? s.heap.objs.size=some {cls:= .type "list",data:= .seq #[]}:=Heap.get?_push_size _ U;have nit:s.heap.objs.size≠it:=λc=>by obtain⟨o,e,_⟩:=hit;exact kJ _ (c▸Heap.lt_size e)
 have nl:s.heap.objs.size≠l:=λc=>by obtain⟨o,e,_⟩:=hl;exact kJ _ (c▸Heap.lt_size e)
 refine⟨⟨_,hS,U⟩,F.args_list_init_2 _ _,abQ (A:=A.in1) hh (hit.at λo e=>Heap.get?_push_of_some _ e) (by obtain⟨o,e,r⟩:=hl;exact⟨o,Heap.get?_push_of_some _ e,r⟩) xw hn _ nit nl hS λh' tk acc' c' hk xx cH=>?_⟩;exact⟨U,hQ h' tk acc' c' (λb o hb e=>hk b o (f6 (Heap.lt_size e)) hb (Heap.get?_push_of_some _ e)) xx cH⟩
end
end PySem
namespace L2
open PySem PySem.Spec PyProof.Rows
theorem Pj:bootBuiltins "list"=some (.type "list"):=by first|rfl|decide+kernel
theorem abS:bootBuiltins "set"=some (.type "set"):=by first|rfl|decide+kernel
def abT(K:PySem.W.Frag)(te:TE):TE:=λσ H Q=>te σ H λx H1=>∃(a:Addr) (xs:List V),x= .ref a/\ ab K H1 a xs/\ ∀l,H1 l=none->Q (.ref l) (upd H1 l (.lst xs.reverse))
section
variable{X:Cx}
theorem abU{xs:List V}{ai:List Value}(rv:Vals xs ai)(acc:Array Value)(h:ItemsOf (λi v=>ai.toArray[ai.toArray.size-1-i]? =some v) acc ai.toArray.size):Vals xs.reverse acc.toList:=by
 have e:acc.toList=ai.reverse:=by
  obtain⟨h1,h2⟩:=h;simp only[dJ]at h1 h2;apply x4;intro i;by_cases hi:i<ai.length
  ·have uO:i<acc.size:=by omega
   have:=h2 i acc[i] (by simp[uO]);rw[xS hi];rw[show acc.toList[i]? =some acc[i] by simp[uO]];simpa using this.symm
  ·rw[jQ (by simp;omega),jQ (by simp;omega)]
 rw[e];exact PP.DK rv
theorem abV{e:Expr}{te:TE}{p pos p' pos':Pos}(hgL:Gl X "list")(hmL:X.mg "list"=none)(hgR:Gl X "reversed")(hmR:X.mg "reversed"=none)(hc:X.calm=true)(he:PE X e te)
  (hs:starEach [e] X.env=[(false,eval e X.env)]:=by rfl) (vU:starEach [.Call (.Name "reversed" p') [e] [] pos'] X.env=[(false,eval (.Call (.Name "reversed" p') [e] [] pos') X.env)]:=by rfl):
  PE X (.Call (.Name "list" p) [.Call (.Name "reversed" p') [e] [] pos'] [] pos) (abT X.K te):=by
 intro pins s σ H Q I h;refine wpAny_Call_Name_kw (oA I hgL hmL Pj ?_);refine PyProof.Rows.callWith_type1 ?_ vU U;rw[vU];show wpAny _ _ (spliced ((false,eval (.Call (.Name "reversed" p') [e] [] pos') X.env)::backTo pos [])) _ _ s;refine Calls.spliced_cons ?_;refine wpAny_Call_Name_kw (oA I hgR hmR K2 ?_);refine PyProof.Rows.callWith_type1 ?_ hs U;rw[hs];show wpAny _ _ (spliced ((false,eval e X.env)::backTo pos' [])) _ _ s;refine Calls.spliced_cons (aV (he pins s σ H _ I h) λu s1 ⟨x,H1,I1,r1,q1⟩=>?_);refine Calls.spliced_nil ?_;obtain⟨a,xs,rfl,hq,q⟩:=q1;cases r1;obtain⟨ai,rv,p',hz⟩:=I1.list hq;have hl:=rv.length;refine call_reversed_list p'.isList ?_;refine Calls.spliced_nil ?_;have I2:Inv X pins σ H1 {s1 with heap:=s1.heap.push {cls:= .type "list_reverseiterator",data:= .fields #[.ref a,rawInt (((ai.toArray.size:Nat):Int)-1)]}}:=I1.kept (t':=s1.toks) λb o e=>Heap.get?_push_of_some _ e;have ha:a<s1.heap.objs.size:=by obtain⟨o,e,_⟩:=p'.isList;exact Heap.lt_size e
 refine abR (l:=a) (items:=ai.toArray) (I1.ok.hd hc) ⟨_,Heap.get?_push_size _ U,U,U⟩ (by obtain⟨o,e,r⟩:=p'.isList;exact⟨o,Heap.get?_push_of_some _ e,r⟩) (f6 ha) (by simp only[dJ];omega) λh' tk acc' c' hk hS cH=>?_;have hf:∀b∈ [s1.heap.objs.size],j5 X pins H1 b:=λb hb=>by
  have e:b=s1.heap.objs.size:=by simpa using hb
  subst e;exact I1.rE (aM _) (I1.aK.fresh (aM _))
 have nT:=I2.aK.fresh (aM _);exact⟨.ref _,_,I2.DF (ch:=[s1.heap.objs.size]) (λb o hb e=>hk b o (by simpa using hb) e) hf (aM _)
  (show dU X.prog X.w _ _ _ (.lst xs.reverse)from⟨by rw[sZ];exact hz,acc'.toList,c',abU rv acc' cH,by simpa using hS⟩),U,q _ nT⟩
theorem abW:jD X (.type "range") (λxs H Q=>∃n:Int,xs=[.int n]/\ ∀r,H r=none->Q (.ref r) (upd H r (.rj 0 n))):=by intro pins s σ H xs us Q I r h;obtain⟨n,rfl,q⟩:=h;obtain⟨u,rfl,rx⟩:=vals1 r;obtain⟨t,rfl⟩:=rx;refine call_range_1 ?_;exact⟨.ref _,_,I.laid (t':=s.toks+1+1) (λb u e=>Heap.get?_push_of_some _ e) (aM _) (show dU X.prog X.w _ _ _ (.rj 0 n)from⟨_,_,_,Heap.get?_push_size _ U⟩),U,q _ (I.aK.fresh (aM _))⟩
theorem abX(hc:X.calm=true):jD X (.type "list") (λxs H Q=>∃(r:Addr) (n:Nat),xs=[.ref r]/\ H r=some (.rj 0 (n:Int))/\ n<=100000/\ ∀l,H l=none->Q (.ref l) (upd H l (.lst ((List.range n).map λi:Nat=>V.int (i:Int))))):=by
 intro pins s σ H xs us Q I r h;obtain⟨a,n,rfl,hq,hn,q⟩:=h;obtain⟨u,rfl,rx⟩:=vals1 r;cases rx;obtain⟨t,u,v,e⟩:=I.aK a _ hq;refine call_list_range (a:=0) (b:=n) (c:=1) (n:=n) (I.ok.hd hc) e (small_one (by omega) (by omega) (by omega) (by omega)) (by rw[rangeSize_one];split<;>omega) (by omega) λh' tk acc' c' hk hS cH=>?_;obtain⟨h1,h2⟩:=cH;have rv:Vals ((List.range n).map λi:Nat=>V.int (i:Int)) acc'.toList:=by
  have:∀(m:Nat) (us:List Value),us.length=m->(∀(j:Nat) v,us[j]? =some v->∃t,v=Value.int (0+(j:Int)*1) t)->Vals ((List.range m).map λi:Nat=>V.int (i:Int)) us:=by
   intro m;induction m with
   |zero=>intro us e _;rw[uX.mp e];exact .nil
   |succ m ih=>
    intro us e hj;have hm:m<us.length:=by omega
    have e2:us=us.take m++[us[m]]:=by rw[List.take_append_getElem hm,pF (by omega)]
    rw[e2,sT,gD];refine Vals.append (ih _ (by rw[mX];omega) λj v hv=>?_) ?_
    ·have Iu:j<m:=by
      have:=(cP.mp hv).1;rw[mX]at this;omega
     rw[List.getElem?_take_of_lt Iu]at hv;exact hj j v hv
    ·obtain⟨t,ht⟩:=hj m us[m] (by simp[hm])
     refine .cons ⟨t,?_⟩ .nil;rw[ht];simp
  refine this n _ (by simpa using h1) λj v hv=>h2 j v (by simpa using hv)
 exact⟨.ref _,_,I.laid (t':=tk) hk (aM _) (show dU X.prog X.w _ _ _ (.lst _)from⟨by rw[aI,List.length_range,sizeLine_eq];omega,acc'.toList,c',rv,by simpa using hS⟩),U,q _ (I.aK.fresh (aM _))⟩
def firstM(ns:List Int):List Int:=firstMet (λi=>ns.getD i 0) ns.length
theorem abY(hc:X.calm=true):jD X (.type "set") (λxs H Q=>∃(a:Addr) (ns:List Int),xs=[.ref a]/\ ab X.K H a (ns.map V.int)/\ ns.length<=4000/\ ∀l,H l=none->Q (.ref l) (upd H l (.set (λk'=>(firstM ns).any (·==k')) (firstM ns).length))):=by intro pins s σ H xs us Q I r h;obtain⟨a,ns,rfl,hq,hn,q⟩:=h;obtain⟨u,rfl,rx⟩:=vals1 r;cases rx;obtain⟨ai,rv,pl,hz⟩:=I.list hq;have hl:=rv.length;rw[aI]at hl;refine PySem.call_set_list (ns:=ns) (I.ok.hd hc) pl.isList (by simpa using intsAre_of rv) (by simp only[dJ];rw[<-hl];have:scanBound=4096:=rfl;omega) λh' tk hS hk=>?_;simp only[dJ,<-hl]at hS;exact⟨.ref _,_,I.laid (t':=tk) (λb o e=>hk b o (Heap.lt_size e) e) (aM _) (show dU X.prog X.w _ _ _ (.set _ _)from hS),U,q _ (I.aK.fresh (aM _))⟩
theorem abZ:jD X (.builtin "len") (λxs H Q=>∃(a:Addr) (S:Int->Bool) (n:Nat),xs=[.ref a]/\ H a=some (.set S n)/\ Q (.int n) H):=by intro pins s σ H xs us Q I r h;obtain⟨a,S,n,rfl,hq,q⟩:=h;obtain⟨u,rfl,rx⟩:=vals1 r;cases rx;obtain⟨o,es,ep,t,e1,e2,e3,e4,e5,e6,e7,e8⟩:=I.aK a _ hq;refine call_len_set e1 e2 e3 e7 (by have:scanBound=4096:=rfl;omega) ?_;exact⟨.int n,_,I.tok _,⟨_,by rw[e8]⟩,q⟩
end
end L2
namespace PP
open PySem PySem.Spec PyProof.Rows L2 PM
open Vaneta (Formula Text Name isSmall isWord isName cutAt multiplicative nodes form deep paren Token dual inBounds)
open Vanetc (isDigit formulas partsOf together switchings pars rootsFrom decimal countParts)
open Vanetg (below junctions comesOut tellLeaf passages theLeaf withSwitches toldPlace placesOf does allLong switchAt behindUp given)
section
variable{P:Program}{w:World}{K:PySem.W.Frag}{mg:Str->Option Value}{base:Heap}{A:aE}
theorem ab0{s:Net}{D:dn}(d:dF s D){n k m:Nat}(hn:n<(aQ s).length)(h1:D.1.nodes[n]? =some (k,[]))(hk:k=2\/k=3)(h2:D.1.seconds[n]? =some (m:Int)):jL s n (n+1) m:=by
 have fH:(aQ s)[n]? =some (aQ s)[n]:=br hn;generalize (aQ s)[n]=pt at fH;cases pt with
 |leaf=>obtain⟨⟨x,hx,qC⟩,_⟩:=d.arr.leaf fH;have e:(k,[])=x:=ay (h1.symm.trans hx);rw[<-e]at qC;have qC:k<2:=qC;omega
 |tensor l r=>
  obtain⟨e1,e2,_⟩:=jL.arr d (j:=n) (l:=l) (r:=r) (.inl fH);have e3:(m:Int)=(r:Int):=ay (h2.symm.trans e2);have e4:m=r:=by omega
  subst e1 e4;exact .inl fH
 |par l r=>
  obtain⟨e1,e2,_⟩:=jL.arr d (j:=n) (l:=l) (r:=r) (.inr fH);have e3:(m:Int)=(r:Int):=ay (h2.symm.trans e2);have e4:m=r:=by omega
  subst e1 e4;exact .inr fH
def mI:Option Nat->V
 |some n=>nI n
 |none=> .int (-1)
theorem ab1(z:Int):gj (.int z) [.int 0, .int 1]=(decide (z=0)||decide (z=1)):=by rw[Pe];congr 1<;>(rw[iG];simp)
theorem Pk{A:Formula}(hm:multiplicative A=true):(∃B C k,(A= .tensor B C/\ k=2\/A= .par B C/\ k=3))\/(∃x,(enc A)[0]? =some x/\ x.1<2)/\ ∀p,desc A p=match p with|[]=>some 0|_::_=>none:=by
 cases A with
 |atom n b=>right;exact⟨⟨_,U,by show(if n=true then 1 else 0)<2;split<;>decide⟩,λp=>by cases p<;>rfl⟩
 |tensor B C=>exact .inl ⟨B,C,2, .inl ⟨U,U⟩⟩
 |par B C=>exact .inl ⟨B,C,3, .inr ⟨U,U⟩⟩
 |wth B C|plus B C|ofc B|whn B=>simp[multiplicative]at hm
def ab2(A:aE):Sp:=λvs H Q _=>∃(v:V) (D:dn) (s:Net) (f r:Nat) (F:Formula) (pa:Addr) (zs:List Int),vs=[v,nI f, .ref pa]/\ bq A H v D/\ dF s D/\ (formulas s)[f]? =some F/\ (dR s)[f]? =some r/\ H pa=some (.lst (zs.map V.int))/\ zs.length<=10000/\ ∀H',aa H H'->Q (mI ((desc F zs).map (r+·))) H'
theorem ab3(T:Txt K mg A):Gd P w K mg base 2 A.EK A.Mu ["points","formula","place"] (ab2 A):=by
 refine T.Yd.go (N:=["points","formula","place","at","side"]) ?_;rintro aC A' outer s H vs Q E hr nd ⟨v,D,s,f,r,F,pa,zs,rfl,hv,d,hF,d7,gR,nD,q⟩;refine⟨_,(af (aN 3 nd (aT (ao (pv 0)) (pv 1)))
  (af (eZ PassesOwn.never U (eE (pv 2)) (cx 4 nd) (af (a9 (PW.pt (kU (ij (dC (aP hr (mw T) T.mq (aj (aT (ao (pv 0)) (pv 3)))))) (oB (aR TM (pv 4) (gh (aY ak ak)))))) (ag (aB (il ip ak))) bt)
  (ag (aN 3 nd (bN hr (qD T) T.aF T.qi (pv 0) (aY (pv 3) (pv 4)))))))
  (ag (aB (kW (dC (aP hr (mw T) T.mq (aj (aT (ao (pv 0)) (pv 3))))) (il ip ak) (pv 3)))))),?_⟩
 obtain⟨a,vs,rfl,S,pp⟩:=id hv;have mH:D.2.2.1[f]? =some r:=by rw[d.ro];exact d7
 refine⟨_,U,_,_,_,_,_,U,S.obj,T.aF,T.oV,U,_,U,a.l8,_,_,_,U,U,ab.of (S.get 8 U U),bH (kz mH),?_⟩;have sub0:lT D.1.nodes D.1.seconds r F:=by rw[d.nd,d.se];exact lT.of d.good.mul hF d7
 have sC:r<(aQ s).length:=by have h:=m7 _ _ r (bC d7);have e:(aQ s).length=bf (formulas s):=jV _ _ d.good.mul;omega
 refine⟨_,U,pa,U,⟨_,ab.of gR⟩,gL (xs:=zs.map V.int) (λi σ' H'=>∃(u:Option V) (n:Nat) (C:Formula),σ'=[some (.ref a.p),some (nI f),some (.ref pa),some (nI n),u]/\ aa H H'/\ lT D.1.nodes D.1.seconds n C/\ (desc F zs).map (r+·)=(desc C (zs.drop i)).map (n+·))
  ⟨none,r,F,U,aa.refl _,sub0,by rw[kL]⟩ (λi σ' H' _ ⟨_,_,_,_,sm,_⟩=>ab.of (sm _ _ gR)) ?_ ?_⟩
 ·rintro i x σ' H' hx ⟨u,n,C,rfl,sm,sub,he⟩
  obtain⟨z,hz,rfl⟩:=lu hx;have hi:=dm hz;have sf:zs.drop i=z::zs.drop (i+1):=by have e:=(cP.mp hz).2;rw[jP hi,e]
  rw[sf]at he;obtain⟨nd',gb,G1⟩:=sub.head;obtain⟨nv,sE,g,w,rfl,hg,_⟩:=oR pp gb;have gO:=xp d nd' (bC gb);refine⟨_,U,_,_,_,_,_,U,sm _ _ S.obj,T.aF,T.ki,U,_,U,a.l0,_,_,_,U,U,ab.of (sm _ _ (S.get 0 U U)),bH sE,g,nd'.1,_,U,sm _ _ hg,_,U,?_⟩;rw[nG gO];have hnl:n<(aQ s).length:=by rw[<-d.arr.ln];exact dm gb
  rcases Pk sub.mul with⟨B,C',k,hC⟩|⟨⟨y,hy,hy2⟩,iW⟩
  ·obtain⟨t1,t2,t3,t4⟩:=sub.two hC
   have hk:k=2\/k=3:=by rcases hC with⟨_,h⟩|⟨_,h⟩<;>omega
   have en:nd'=(k,[]):=ay (gb.symm.trans t1);have ej:bR nd'=true:=by rw[en];unfold bR;exact decide_eq_true (by show 2<=k;omega)
   have hJ:=ab0 d hnl t1 hk t2;have iW:desc C (z::zs.drop (i+1))=if z=0 then(desc B (zs.drop (i+1))).map (·+1)else if z=1 then(desc C' (zs.drop (i+1))).map (·+(1+nodes B))else none:=by rcases hC with⟨rfl,_⟩|⟨rfl,_⟩<;>rfl
   rw[iW]at he;rw[ej];refine aA ⟨_,U,gm,λt ht=>⟨t,_,U, .inr (bz.of ae),U,U,_,U,?_⟩⟩;have s2:=sm.trans (aa.new (o:= .tup [V.int 0,V.int 1]) ht);rw[show(if true=true then !gj (.int z) [.int 0, .int 1]else gj (.int z) [.int 0, .int 1])= !gj (.int z) [.int 0, .int 1]from rfl,ab1];by_cases h0:z=0
   ·subst h0
    rw[if_pos U]at he;refine aA ⟨_,U,a.p,_,_,U,s2 _ _ S.obj,U,_,U,_,U, .ref a.p,D,s,n,n+1,n+1+nodes B,false,U,bq.mono _ _ _ _ s2 hv,d,hJ,_,n+1,B,U,s2,t3,?_⟩;rw[he,u6];congr 1;funext x;show n+(x+1)=n+1+x;omega
   ·by_cases h1:z=1
    ·subst h1
     rw[if_neg (by decide),if_pos U]at he;refine aA ⟨_,U,a.p,_,_,U,s2 _ _ S.obj,U,_,U,_,U, .ref a.p,D,s,n,n+1,n+1+nodes B,true,U,bq.mono _ _ _ _ s2 hv,d,hJ,_,n+1+nodes B,C',U,s2,t4,?_⟩;rw[he,u6];congr 1;funext x;show n+(x+(1+nodes B))=n+1+nodes B+x;omega
    ·rw[if_neg h0,if_neg h1]at he
     rw[decide_eq_false h0,decide_eq_false h1];refine aJ ⟨_,U,?_⟩;have:=q _ s2;rw[he]at this;exact this
  ·have en:nd'=y:=ay (G1.symm.trans hy)
   have ej:bR nd'=false:=by rw[en];unfold bR;exact decide_eq_false (by omega)
   rw[iW]at he;rw[ej];refine aJ (aJ ⟨_,U,?_⟩);have:=q _ sm;rw[he]at this;exact this
 ·rintro σ' H' ⟨u,n,C,rfl,sm,sub,he⟩
  rw[aI,lG]at he;obtain⟨nd',gb,G1⟩:=sub.head;obtain⟨nv,sE,g,w,rfl,hg,_⟩:=oR pp gb;have gO:=xp d nd' (bC gb);refine⟨_,U,_,_,_,_,_,U,sm _ _ S.obj,T.aF,T.ki,U,_,U,a.l0,_,_,_,U,U,ab.of (sm _ _ (S.get 0 U U)),bH sE,g,nd'.1,_,U,sm _ _ hg,_,U,?_⟩;rw[nG gO];have q':=q _ sm;rw[he]at q';rcases Pk sub.mul with⟨B,C',k,hC⟩|⟨⟨y,hy,hy2⟩,iW⟩
  ·obtain⟨t1,_⟩:=sub.two hC
   have hk:k=2\/k=3:=by rcases hC with⟨_,h⟩|⟨_,h⟩<;>omega
   have en:nd'=(k,[]):=ay (gb.symm.trans t1);have ej:bR nd'=true:=by rw[en];unfold bR;exact decide_eq_true (by show 2<=k;omega)
   have iW:desc C []=none:=by rcases hC with⟨rfl,_⟩|⟨rfl,_⟩<;>rfl
   rw[iW]at q';rw[ej];exact aJ ⟨_,U,q'⟩
  ·have en:nd'=y:=ay (G1.symm.trans hy)
   have ej:bR nd'=false:=by rw[en];unfold bR;exact decide_eq_false (by omega)
   rw[iW]at q';rw[ej];exact aA ⟨_,U,q'⟩
def ab6(A:aE):Sp:=λvs H Q _=>∃(v:V) (D:dn) (s:Net) (c:Int) (pa:Addr) (zs:List Int),vs=[v, .int c, .ref pa]/\ bq A H v D/\ dF s D/\ H pa=some (.lst (zs.map V.int))/\ zs.length<=10000/\
 ∀H',aa H H'->Q (mI ((theLeaf s c zs).bind λi=>(cv s)[i]?)) H'
theorem Pl(T:Txt K mg A):Gd P w K mg base 3 A.EL A.Mv ["points","conclusion","place"] (ab6 A):=by
 refine T.Ye.go (N:=["points","conclusion","place"]) ?_;rintro aC A' outer s H vs Q E hr nd ⟨v,D,s,c,pa,zs,rfl,hv,d,gR,nD,q⟩;refine⟨_,(af (a9 (ij (dC (bN hr (GV T) T.aF T.FN (pv 0) (aj (pv 1))))) (ag (aB (il ip ak))) bt)
  (ag (aB (aP hr (ab3 T) T.WN (fM (pv 0) (aY (pv 1) (pv 2))))))),?_⟩
 obtain⟨a,vs,rfl,S,pp⟩:=id hv;refine⟨_,U,a.p,_,_,U,S.obj,U,_,U, .ref a.p,D,s,c,U,hv,d,_,U,?_⟩;by_cases hc:below c s.concl.length=true
 ·rw[hc]
  have Pn:0<=c/\ c<(s.concl.length:Int):=by unfold below at hc;simp only[bb,decide_eq_true_eq]at hc;exact hc
  obtain⟨f,rfl⟩:∃f:Nat,c=(f:Int):=⟨c.toNat,by omega⟩
  have hf:f<s.concl.length:=by omega
  have AQ:s.concl[f]? =some (s.concl[f]):=br hf;generalize s.concl[f]=F at AQ;have hF:(formulas s)[f]? =some F:=by rw[vC,dQ hf];exact AQ
  have hm:=d.good.mul F (bC hF);have hl:(dR s).length=(formulas s).length:=lL _ _;have d7:(dR s)[f]? =some ((dR s)[f]'(by rw[hl];exact dm hF)):=br _;generalize (dR s)[f]'(by rw[hl];exact dm hF)=r at d7;refine aA ⟨_,U,_,U,_,U, .ref a.p,D,s,f,r,F,pa,zs,U,hv,d,hF,d7,gR,nD,λH' sm=>?_⟩;have q':=q _ sm;cases ht:theLeaf s (f:Int) zs with
  |none=>rw[ht]at q';rw[RD AQ hm ht];exact q'
  |some n=>rw[ht]at q';obtain⟨k,e,bT,h2,h3⟩:=Ck AQ hm ht;obtain⟨r',d',z1,z2,_,z4⟩:=(bT.left (b:=cM s.cuts)).root 0 d.good.mul;have er:r=r':=ay (d7.symm.trans z1);have ed:e=d':=ay (h2.symm.trans z2);subst er ed;rw[h3];have z4:(cv s)[n]? =some (r+e):=z4;rw[cY,z4]at q';exact q'
 ·have hc:below c s.concl.length=false:=by simpa using hc
  rw[hc];refine aJ ⟨_,U,?_⟩;have q':=q _ (aa.refl _);have e:theLeaf s c zs=none:=by
   unfold theLeaf;by_cases h0:c<0
   ·rw[if_pos h0]
   ·rw[if_neg h0]
    unfold below at hc;rw[decide_eq_true (by omega:(0:Int)<=c),mV]at hc;have hc:=of_decide_eq_false hc;cases Vanetg.placeIn zs with
    |none=>rfl
    |some q=>rw[cY];unfold Vanetg.leafAt;rw[jQ (by omega)];rfl
  rw[e]at q';exact q'
theorem eU{H H':Hp}{p:Addr}(s:aa H H')(h:H' p=none):H p=none:=by
 cases e:H p with
 |none=>rfl
 |some o=>rw[s _ _ e]at h;cases h
theorem xy:∀(A:Formula),∀p∈placesOf A,p.length<nodes A
 | .atom _ _,p,h=>by simp[placesOf]at h;subst h;simp[nodes]
 | .tensor A B,p,h| .par A B,p,h=>by
  simp only[placesOf,cN,c9]at h;rcases h with⟨q,hq,rfl⟩|⟨q,hq,rfl⟩
  ·have:=xy A q hq;simp[nodes];omega
  ·have:=xy B q hq;simp[nodes];omega
 | .wth A B,p,h| .plus A B,p,h| .ofc A,p,h| .whn A,p,h=>by simp[placesOf]at h;subst h;simp[nodes];omega
def ab7(A:aE):Sp:=λvs H Q _=>∃(v:V) (D:dn) (p:Nat) (π:List Nat),vs=[v,nI p]/\ bq A H v D/\ ia D.1.below D.1.sides p π/\ π.length<=10000/\ iV H Q (π.map nI)
theorem ab8(T:Txt K mg A):Gd P w K mg base 1 A.EM A.Mw ["points","point"] (ab7 A):=by
 refine T.Yf.go (N:=["points","point","sides","at"]) ?_;rintro aC A' outer s H vs Q E hr nd ⟨v,D,p,π,rfl,hv,bD,hlen,q⟩;refine⟨_,(af (aN 2 nd (aS bY))
  (af (aN 3 nd (pv 1))
  (af (j3 PassesOwn.never (aR t5 (aT (ao (pv 0)) (pv 3)) (il ip ak)) (af (bF (dD (pv 2) (aT (ao (pv 0)) (pv 3))))
  (ag (aN 3 nd (aT (ao (pv 0)) (pv 3))))))
  (ag (aB (abV (by rfl) T.wC (by rfl) T.FA U (pv 2))))))),?_⟩
 obtain⟨a,vs,rfl,S,pp⟩:=id hv;refine⟨bj _,λl hl=>⟨_,U,?_⟩⟩;have s1:=aa.new (o:= .lst []) hl;obtain⟨W,hW⟩:∃W:Nat->L2.St->Hp->Prop,W=λm σ' H'=>∃(n:Nat) (π' τ:List Nat),m=π'.length/\ π=π'++τ.reverse/\ ia D.1.below D.1.sides n π'/\ σ'=[some (.ref a.p),some (nI p),some (.ref l),some (nI n)]/\ aa H H'/\ H' l=some (.lst (τ.map nI)):=⟨_,U⟩
 refine⟨W,⟨_,by rw[hW];exact⟨p,π,[],U,by simp,bD,U,s1,ae⟩⟩,λm σ' H' w'=>?_⟩;rw[hW]at w';obtain⟨n,π',τ,rfl,eπ,cl,rfl,sm,aU⟩:=w';have hb:∀z:Int,D.1.below[n]? =some z->gi (D.1.below.map V.int) (n:Int)=some (.int z):=λz h=>bH (fY h);cases cl with
 |root h0=>refine⟨_,U,_,_,_,_,_,U,sm _ _ S.obj,T.aF,T.ql,U,_,U,a.l2,_,_,_,U,U,ab.of (sm _ _ (S.get 2 U U)),hb _ h0,_,U,U,_,U,?_⟩;rw[show decide (V.int (-1)=V.int (-1))=true from decide_eq_true U];refine aA ⟨_,U,l,_,U,ab.of aU,λr d7=>?_⟩;refine q r _ (sm.trans (aa.new d7)) (eU sm d7) ?_;rw[ae,eπ,mS,List.map_reverse]
 | @up _ j sd π0 h0 h1 h2=>
  have b8:(V.int (j:Int)=V.int (-1))->False:=λc=>by have:=V.int.inj c;omega
  refine⟨_,U,_,_,_,_,_,U,sm _ _ S.obj,T.aF,T.ql,U,_,U,a.l2,_,_,_,U,U,ab.of (sm _ _ (S.get 2 U U)),hb _ h0,_,U,U,_,U,?_⟩;rw[show decide (V.int (j:Int)=V.int (-1))=false from decide_eq_false b8];have afe:τ.length<=10000:=by rw[eπ]at hlen;simp at hlen;omega
  refine aJ ⟨λσ' H'=>∃m',m'<(π0++[sd]).length/\ W m' σ' H',λ_ _ h=>h,?_⟩;refine⟨_,U, .inl ⟨U,_,ab.of aU⟩,_,U,_,_,_,_,_,U,sm _ _ S.obj,T.aF,T.wK,U,_,U,a.l3,_,_,_,U,U,ab.of (sm _ _ (S.get 3 U U)),bH (fY h1),l,_,_,U,U,aU,dk (by simp;omega),?_⟩;have s2:=c5 (o:= .lst (τ.map nI++[V.int (sd:Int)])) sm hl;refine⟨_,U,_,_,_,_,_,U,s2 _ _ S.obj,T.aF,T.ql,U,_,U,a.l2,_,_,_,U,U,ab.of (s2 _ _ (S.get 2 U U)),hb _ h0,π0.length,by simp,?_⟩;rw[hW];refine⟨j,π0,τ++[sd],U,by rw[eπ];simp,h2,U,s2,?_⟩;rw[ae];simp;rfl
theorem Po{fs:List Formula}{F:Formula}(h:F∈fs):nodes F<=bf fs:=by
 induction fs with
 |nil=>cases h
 |cons G r ih=>
  simp only[bf];rcases a_.mp h with rfl|h
  ·omega
  ·have:=ih h;omega
def ab9(A:aE):Sp:=λvs H Q _=>∃(v:V) (D:dn) (s:Net) (p i:Nat),vs=[v,nI p]/\ bq A H v D/\ dF s D/\ i<s.to.length/\ (cv s)[i]? =some p/\
 iV H Q (((tellLeaf (formulas s) 0 i).1::toldPlace (tellLeaf (formulas s) 0 i).2).map nI)
theorem G2(T:Txt K mg A):Gd P w K mg base 2 A.EN A.Mx ["points","point"] (ab9 A):=by
 refine T.Yg.go (N:=["points","point","place"]) ?_;rintro aC A' outer s H vs Q E hr nd ⟨v,D,s,p,i,rfl,hv,d,hi,hp,q⟩;refine⟨_,(af (aN 2 nd (aP hr (ab8 T) T.WO (aY (pv 0) (pv 1))))
  (ag (aB (b_ gz (aS (aY (aT (ao (pv 0)) (pv 1)) (dw T.c6 (pv 2)))) (pv 2))))),?_⟩
 obtain⟨a,vs,rfl,S,pp⟩:=id hv;obtain⟨f,k,F,r,e,eD,h2,h3,h4,h5,h6⟩:=d.good.leaf hi;have ep:p=r+e:=ay (hp.symm.trans h5);have bD:=eD.Rz d.good.mul hp;rw[eD.tell 0,ft]at q;rw[<-ep]at h6;have how:D.2.1[p]? =some f:=by rw[d.ow];exact h6
 have hk:k<(placesOf F).length:=by rw[places_len F (d.good.mul F (bC eD.fm))];exact eD.lt
 have bK:((placesOf F).getD k []).length<=10000:=by
  rw[nZ,br hk];have h1:=xy F _ (Bp hk);have h7:nodes F<=(aQ s).length:=by have e:(aQ s).length=bf (formulas s):=jV _ _ d.good.mul;have:=Po (bC eD.fm);omega
  have:=d.bd;show(placesOf F)[k].length<=10000;omega
 generalize (placesOf F).getD k []=π at bD bK q;refine⟨_,U,_,U, .ref a.p,D,p,π,U,hv,by rw[d.be,d.si];exact bD,bK,λl H1 s1 dY hl=>?_⟩;refine⟨_,U,_,_,_,_,_,U,s1 _ _ S.obj,T.aF,T.um,U,_,U,a.l1,_,_,_,U,U,ab.of (s1 _ _ (S.get 1 U U)),bH (kz how),_,U,l,_,U, .inl (ab.of hl),gm,λm hm=>?_⟩;have s2:=aa.new (o:= .lst [nI f,V.int ((π.map nI).length:Int)]) hm;refine⟨_,U,m,l,_,_,U,U,ae,s2 _ _ hl,fC (by simp;omega),λc hc=>?_⟩;refine q c _ ((s1.trans s2).trans (aa.new hc)) (eU (s1.trans s2) hc) ?_;rw[ae];unfold toldPlace;simp[nI]
theorem xA{s:Net}(g:Good s){i p:Nat}(h:(cv s)[i]? =some p):(aQ s)[p]? =some .leaf/\ i<s.to.length/\ (cv s)[s.to.getD i 0]? =some (partner s p):=by
 have hm:p∈cv s:=bC h;obtain⟨q,e,hq⟩:=(vo _ _ _).mp hm;have e:p=q:=by omega
 subst e;obtain⟨i',j,h1,h2,h3,h4⟩:=g.pair hq;rw[gZ]at h1 h4;have hl:(cv s).length=s.to.length:=by rw[g.len,gZ]
 have ei:i=i':=by
  obtain⟨l1,e1⟩:=cP.mp h;obtain⟨l2,e2⟩:=cP.mp h1;rcases Nat.lt_trichotomy i i' with c|c|c
  ·exact absurd (e1.trans e2.symm) (xZ.mp (pL _ _) i i' l1 l2 c)
  ·exact c
  ·exact absurd (e2.trans e1.symm) (xZ.mp (pL _ _) i' i l2 l1 c)
 subst ei;refine⟨hq,by rw[<-hl];exact dm h,?_⟩;rw[eX h2];exact h4
def kC(p c:Nat)(b:Bool)(n:Nat):List (Str×V):=[("point",nI p),("cut_count",nI c),("board",dy b),("crossing_count",nI n)]
def ab_(A:aE):Sp:=λvs H Q _=>∃(t dx:Addr) (x:Nat),vs=[.ref t,nI x]/\ H t=some (.ins A.eQ dx [])/\ Q .aO (upd H t (.ins A.eQ dx (kC x 0 false 0)))
theorem Pp(T:Txt K mg A):Gd P w K mg base 1 A.zX A.MR ["self","point"] (ab_ A):=by
 refine T.YA.go (N:=["self","point"]) ?_;rintro aC A' outer s H vs Q E hr nd ⟨p,dx,x,rfl,hp,q⟩;refine⟨_,(af (cn (pv 0) (pv 1))
  (af (cn (pv 0) ak)
  (af (cn (pv 0) ak)
  (ag (cn (pv 0) ak))))),?_⟩
 refine⟨_,U,_,U,p,_,_,_,U,hp,T.dX,T.mr,(by show 0<1000;decide),?_⟩;refine⟨_,U,p,_,_,_,U,ae,T.dX,T.FY,(by show 1<1000;decide),?_⟩;refine⟨_,U,p,_,_,_,U,ae,T.dX,T.nF,(by show 2<1000;decide),?_⟩;refine⟨_,U,p,_,_,_,U,ae,T.dX,T.FZ,(by show 3<1000;decide),?_⟩;rw[jz,jz,jz];exact q
def ab'(A:aE):Sp:=λvs H Q _=>∃(v:V) (D:dn) (s:Net) (p i:Nat),vs=[v,nI p]/\ bq A H v D/\ dF s D/\ Vanete.outer s<=i/\ i<s.to.length/\ (cv s)[i]? =some p/\
 ∀p',(cv s)[Vanete.over (Vanete.outer s) s.cuts i]? =some p'->Q (nI p') H
theorem aca(T:Txt K mg A):Gd P w K mg base 1 A.E' A.MV ["points","point"] (ab' A):=by
 refine T.YD.go (N:=["points","point","root"]) ?_;rintro aC A' outer s H vs Q E hr nd ⟨v,D,s,p,i,rfl,hv,d,h1,h2,hp,q⟩;refine⟨_,(af (aN 2 nd (aT (ao (pv 0)) (aT (ao (pv 0)) (pv 1))))
  (ag (aB (b_ rH (b_ jd (aT (ao (pv 0)) (pv 2)) (pv 1)) (pv 2))))),?_⟩
 obtain⟨a,vs,rfl,S,pp⟩:=id hv;obtain⟨f,r,e,qq,g1,g2,g3,g4,g5,g6,g7,g8,g9⟩:=d.good.over h1 h2;have ep:p=r+e:=ay (hp.symm.trans g1);rw[<-ep]at g2;have how:D.2.1[p]? =some f:=by rw[d.ow];exact g2
 have mH:D.2.2.1[f]? =some r:=by rw[d.ro];exact g4
 have AR:=(d.arr.cut g7 g5).2;refine⟨_,U,_,_,_,_,_,U,S.obj,T.aF,T.oV,U,_,U,_,_,_,_,_,U,S.obj,T.aF,T.um,U,_,U,a.l1,_,_,_,U,U,ab.of (S.get 1 U U),bH (kz how),a.l8,_,_,_,U,U,ab.of (S.get 8 U U),bH (kz mH),?_⟩;refine⟨_,U,_,_,_,_,_,U,S.obj,T.aF,T.oU,U,_,U,a.l7,_,_,_,U,U,ab.of (S.get 7 U U),bH (fY AR),_,U,_,_,U,U,_,U,_,_,U,U,?_⟩;have:=q _ g6;have ee:V.int ((qq:Int)+(p:Int)-(r:Int))=nI (qq+e):=by unfold nI;congr 1;omega
 rw[<-ee]at this;exact this
theorem G3{α:Type}{step:α->Option α}{x y:α}{k:Nat}(h:iter step k x=some y)(hy:step y=none):∀n,k<n->iter step n x=none
 |0,hn=>by omega
 |n+1,hn=>by
  show(iter step n x).bind step=none;by_cases c:k=n
  ·subst c;rw[h];exact hy
  ·rw[G3 h hy n (by omega)];rfl
def acb(A:aE):Sp:=λvs H Q _=>∃(t dx:Addr) (v:V) (D:dn) (s:Net) (p i c:Nat) (b:Bool) (n:Nat),vs=[.ref t,v]/\ H t=some (.ins A.eQ dx (kC p c b n))/\ bq A (Wo (λx=>x=t) H) v D/\ dF s D/\ i<Vanete.outer s/\ (cv s)[i]? =some p/\
 ∀H' p',K1 t H H'->(cv s)[(comesOut s i).1]? =some p'->H' t=some (.ins A.eQ dx (kC p' (c+(comesOut s i).2) b n))->Q .aO H'
theorem G4(T:Txt K mg A):Gd P w K mg base 2 A.E9 A.MT ["self","points"] (acb A):=by
 refine T.YB.go (N:=["self","points"]) ?_;rintro aC A' outer s H vs Q E hr nd ⟨t,dx,v,D,s,p,i,c,b,n,rfl,ht,fW,d,hi,hp,q⟩;refine⟨_,(af (cn (pv 0) (aT (ao (pv 1)) (ao (pv 0))))
  (ag (j3 PassesOwn.never (ij (dC (bN hr (GV T) T.aF T.FN (pv 1) (aj (aT (ao (pv 1)) (ao (pv 0))))))) (af (cn (pv 0) (aT (ao (pv 1)) (aP hr (aca T) T.WZ (aY (pv 1) (ao (pv 0))))))
  (ag (CZ (pv 0) ak C0)))))),?_⟩
 obtain⟨⟨x,x1,x2,x3⟩,o1,o2⟩:=d.good.out hi;obtain⟨l1,l2,l3⟩:=xA d.good hp;have gR:=(d.arr.leaf l1).2;have up:∀{H':Hp},K1 t H H'->aa (Wo (λx=>x=t) H) (Wo (λx=>x=t) H'):=λk=>qd λb o e hb=>k b o e hb;have Pq:∀{H':Hp},K1 t H H'->bq A H' v D:=λk=>bq.mono _ _ _ _ ((up k).trans (bB _ _)) fW;obtain⟨a,vs,rfl,S0,pp⟩:=id fW;have hS:∀{H':Hp},K1 t H H'->dE A H' a (fE vs D.1 D.2.1 D.2.2.1) (D.1.jc:Int) (D.2.2.2:Int):=λk=>S0.mono ((up k).trans (bB _ _));have S:=hS (λb o e _=>e);refine⟨_,U,_,_,_,_,_,U,S.obj,T.aF,T.oT,U,_,U,t,_,_,_,_,U,ht,T.dX,T.mr,U,a.l6,_,_,_,U,U,ab.of (S.get 6 U U),bH (fY gR),_,U,t,_,_,_,U,ht,T.dX,T.mr,(by show 4<1000;decide),?_⟩;obtain⟨W,hW⟩:∃W:Nat->L2.St->Hp->Prop,W=λm σ' H'=>∃(k y p1:Nat),m=(comesOut s i).2-k/\ k<=(comesOut s i).2/\ iter (dI s) k i=some y/\ y<s.to.length/\ (cv s)[s.to.getD y 0]? =some p1/\ σ'=[some (.ref t),some (.ref a.p)]/\ K1 t H H'/\ H' t=some (.ins A.eQ dx (kC p1 (c+k) b n)):=⟨_,U⟩
 have k0:∀o,K1 t H (upd H t o):=λo b' o' e hb=>by rw[aD hb];exact e
 refine⟨W,⟨_,by rw[hW];exact⟨0,i,_,U,bj _,U,l2,l3,U,k0 _,ae⟩⟩,λm σ' H' w'=>?_⟩;rw[hW]at w';obtain⟨k,y,p1,rfl,hk,hy,h_,kj,rfl,kk,eY⟩:=w';have S':=hS kk;obtain⟨m1,m2,m3⟩:=xA d.good kj;obtain⟨f,k',F,r,e,eD,h2,h3,h4,h5,h6⟩:=d.good.leaf m2;have ep:p1=r+e:=ay (kj.symm.trans h5);rw[<-ep]at h6;have how:D.2.1[p1]? =some f:=by rw[d.ow];exact h6
 refine⟨_,U,a.p,_,_,U,S'.obj,U,_,U,_,_,_,_,_,U,S'.obj,T.aF,T.um,U,_,U,t,_,_,_,_,U,eY,T.dX,T.mr,U,a.l1,_,_,_,U,U,ab.of (S'.get 1 U U),bH (kz how), .ref a.p,D,s,(f:Int),U,Pq kk,d,_,U,?_⟩;have Pt:=eD.outer;by_cases hf:f<s.concl.length
 ·have hb:below (f:Int) s.concl.length=true:=by unfold below;rw[decide_eq_true (by omega),decide_eq_true (by omega)];rfl
  rw[hb];have cD:dI s y=none:=by unfold dI;rw[if_pos (Pt.mpr hf)]
  have pf:k=(comesOut s i).2:=by
   rcases og k (comesOut s i).2 with c|c
   ·rw[G3 hy cD _ c]at x1;cases x1
   ·omega
  rw[<-pf,hy]at x1;have exy:y=x:=ay x1;subst exy;refine aA (q H' p1 kk (by rw[x3];exact kj) (by rw[<-pf];exact eY))
 ·have hb:below (f:Int) s.concl.length=false:=by unfold below;rw[decide_eq_false (p:=(f:Int)<(s.concl.length:Int)) (by omega),n_]
  rw[hb];have oP:Vanete.outer s<=s.to.getD y 0:=by
   rcases og (s.to.getD y 0) (Vanete.outer s)with c|c
   ·exact absurd (Pt.mp c) hf
   ·exact c
  have cD:dI s y=some (Vanete.over (Vanete.outer s) s.cuts (s.to.getD y 0)):=by unfold dI;rw[if_neg (by omega)]
  have pf:k<(comesOut s i).2:=by
   rcases og k (comesOut s i).2 with c|c
   ·exact c
   ·have e:k=(comesOut s i).2:=by omega
    rw[<-e,hy]at x1;have exy:y=x:=ay x1;rw[<-exy,cD]at x2;cases x2
  refine aJ ⟨λσ' H'=>∃m',m'<(comesOut s i).2-k/\ W m' σ' H',λ_ _ h=>h,?_⟩;obtain⟨_,_,_,_,_,_,_,_,_,g6,_,g8,g9⟩:=d.good.over oP m2;refine⟨_,U,_,_,_,_,_,U,S'.obj,T.aF,T.oT,U,_,U,_,U,t,_,_,_,_,U,eY,T.dX,T.mr,U, .ref a.p,D,s,p1,s.to.getD y 0,U,Pq kk,d,oP,m2,kj,λp2 nJ=>?_⟩;obtain⟨n1,n2,n3⟩:=xA d.good nJ;have acd:=(d.arr.leaf n1).2;refine⟨a.l6,_,_,_,U,U,ab.of (S'.get 6 U U),bH (fY acd),_,U,t,_,_,_,U,eY,T.dX,T.mr,(by show 4<1000;decide),?_⟩;refine⟨_,U,t,_,_,_,_,U,ae,T.dX,T.FY,U,_,_,U,U,_,_,ae,(by show 4<1000;decide),(comesOut s i).2-(k+1),by omega,?_⟩;rw[hW,jz];refine⟨k+1,_,_,U,pf,by show(iter (dI s) k i).bind (dI s)=_;rw[hy];exact cD,n2,n3,U,λb' o e hb=>by rw[aD hb];exact kk b' o e hb,?_⟩;rw[ae];rfl
def ace(A:aE):Sp:=λvs H Q _=>∃(t dx ra:Addr) (r0 r1 e c:Nat) (b:Bool) (n:Nat),vs=[.ref t, .ref ra]/\ H t=some (.ins A.eQ dx (kC ((if b=true then r1 else r0)+e) c b n))/\ H ra=some (.lst [nI r0,nI r1])/\
 ∀H',K1 t H H'->H' t=some (.ins A.eQ dx (kC ((if b=true then r0 else r1)+e) c (!b) (n+1)))->Q .aO H'
theorem acf(T:Txt K mg A):Gd P w K mg base 1 A.E_ A.MU ["self","roots"] (ace A):=by
 refine T.YC.go (N:=["self","roots","inside"]) ?_;rintro aC A' outer s H vs Q E hr nd ⟨t,dx,ra,r0,r1,e,c,b,n,rfl,ht,kD,q⟩;refine⟨_,(af (aN 2 nd (b_ rH (ao (pv 0)) (aT (pv 1) (ao (pv 0)))))
  (af (cn (pv 0) (b_ rH ak (ao (pv 0))))
  (af (cn (pv 0) (b_ jd (aT (pv 1) (ao (pv 0))) (pv 2)))
  (ag (CZ (pv 0) ak C0))))),?_⟩
 have ntr:ra≠t:=ig kD ht (by intro z;cases z);have eD:∀b':Bool,gi [nI r0,nI r1] (if b'=true then 1 else 0)=some (nI (if b'=true then r1 else r0)):=λb'=>by cases b'<;>rfl
 refine⟨_,U,t,_,_,_,_,U,ht,T.dX,T.mr,U,_,U,_,U,t,_,_,_,_,U,ht,T.dX,T.nF,U,ra,_,_,_,U,U,ab.of kD,eD b,_,_,U,U,?_⟩;refine⟨_,U,t,_,_,_,_,U,ht,T.dX,T.nF,U,_,_,U,U,_,U,t,_,_,_,U,ht,T.dX,T.nF,(by show 4<1000;decide),?_⟩;have eb:(1:Int)-(if b=true then 1 else 0)=if(!b)=true then 1 else 0:=by cases b<;>rfl
 refine⟨_,U,_,U,t,_,_,_,_,U,ae,T.dX,T.nF,U,ra,_,_,_,U,U,ab.of (by rw[aD ntr];exact kD),(by show gi [nI r0,nI r1] ((1:Int)-(if b=true then 1 else 0))=_;rw[eb];exact eD (!b)),_,U,_,_,U,U,_,U,t,_,_,_,U,ae,T.dX,T.mr,(by show 4<1000;decide),?_⟩;refine⟨_,U,t,_,_,_,_,U,ae,T.dX,T.FZ,U,_,_,U,U,_,_,ae,(by show 4<1000;decide),?_⟩;refine q _ (λb' o e hb=>by rw[aD hb,aD hb,aD hb];exact e) ?_;rw[ae];have e1:V.int (((if(!b)=true then r1 else r0:Nat):Int)+((((if b=true then r1 else r0)+e:Nat):Int)-((if b=true then r1 else r0:Nat):Int)))=nI ((if b=true then r0 else r1)+e):=by unfold nI;congr 1;cases b<;>simp<;>omega
 have e2:V.int ((1:Int)-(if b=true then 1 else 0))=dy (!b):=by cases b<;>rfl
 show some (HO.ins A.eQ dx [("point",V.int (((if(!b)=true then r1 else r0:Nat):Int)+((((if b=true then r1 else r0)+e:Nat):Int)-((if b=true then r1 else r0:Nat):Int)))),("cut_count",nI c),("board",V.int ((1:Int)-(if b=true then 1 else 0))),("crossing_count",V.int ((n:Int)+1))])=_;rw[e1,e2];rfl
def mM(_:Hp)(v:V)(n:Nat):Prop:=v=nI n
theorem mM.mono:eP mM:=λ_ _ _ _ _ h=>h
theorem AS{H:Hp}{vs:List V}{l:List Nat}(h:Paired (mM H) vs l):vs=l.map nI:=by
 induction h with
 |nil=>rfl
 |cons r _ ih=>rw[r,ih];rfl
def acg(A:aE):Sp:=λvs H Q _=>∃(t dx ba ca:Addr) (v0 v1:V) (D0 D1:dn) (s o:Net) (i j p leaf:Nat) (F:Formula),vs=[.ref t, .ref ba, .ref ca]/\ H t=some (.ins A.eQ dx (kC p 0 false 0))/\ H ba=some (.lst [v0,v1])/\ H ca=some (.lst [nI i,nI j])/\
 bq A (Wo (λx=>x=t) H) v0 D0/\ bq A (Wo (λx=>x=t) H) v1 D1/\ dF s D0/\ dF o D1/\ Meet s o i j F/\ leaf<Vanete.outer s/\ (cv s)[leaf]? =some p/\ ¬ib s o i j F false leaf/\
 ∀H' p' c',K1 t H H'->(cv (c4 s o (Vanetg.play s o i j F leaf).1))[(Vanetg.play s o i j F leaf).2.1]? =some p'->(Vanetg.play s o i j F leaf).2.1<Vanete.outer (c4 s o (Vanetg.play s o i j F leaf).1)->H' t=some (.ins A.eQ dx (kC p' c' (Vanetg.play s o i j F leaf).1 (Vanetg.play s o i j F leaf).2.2))->Q .aO H'
theorem ach(T:Txt K mg A):Gd P w K mg base 3 A.Fb A.MW ["token","boards","conclusions"] (acg A):=by
 refine T.YE.go (N:=["token","boards","conclusions","roots","points","conclusion"]) ?_;rintro aC A' outer s H vs Q E hr nd ⟨t,dx,ba,ca,v0,v1,D0,D1,s,o,i,j,p,leaf,F,rfl,ht,mN,fc,fW,jj,d0,d1,m,hl,hp,rg,q⟩;refine⟨_,(af (Dv (i:=3) U nd U U (Dx U U U (by decide+kernel)) (K6 (by rfl) T.Nk (aY (pv 1) (pv 2))) (jF (own:=[("points",4),("conclusion",5)]) (by show iS ["token","boards","conclusions","roots","points","conclusion"] (d5 (top 87)) _ _=true;decide+kernel)) (λ_ _ _ _ _=>(zS (K:=K) (n:=2) U U (kY (cx 4 nd) (kY (cx 5 nd) tV)))) (λ_ _ _ _ _=>oN) (λ_ _ _ _ _=>(Vw (K:=K) U (Vx (K:=K) U (pv 4)) (pv 5))))
  (af (bF (bN hr (G4 T) T.dX T.FT (pv 0) (aj (aT (pv 1) ak))))
  (ag (j3 PassesOwn.never (aR cj (aT (ao (aT (pv 1) (ao (pv 0)))) (ao (pv 0))) (aT (pv 2) (ao (pv 0)))) (af (bF (bN hr (acf T) T.dX T.WY (pv 0) (aj (pv 3))))
  (ag (bF (bN hr (G4 T) T.dX T.FT (pv 0) (aj (aT (pv 1) (ao (pv 0)))))))))))),?_⟩
 obtain⟨k,w,k1,k2,k3,k4⟩:=RL m hl rg;rw[k4]at q;have nba:ba≠t:=ig mN ht (by intro z;cases z);have nca:ca≠t:=ig fc ht (by intro z;cases z);obtain⟨a0,wZ,rfl,S0,pp0⟩:=id fW;obtain⟨a1,Ap,rfl,S1,pp1⟩:=id jj;have fi:(formulas s)[i]? =some F:=by rw[vC,dQ (dm m.hi)];exact m.hi
 have fj:(formulas o)[j]? =some (dual F):=by rw[vC,dQ (dm m.hj)];exact m.hj
 obtain⟨r0,d7⟩:∃r,(dR s)[i]? =some r:=⟨_,br (by have:(dR s).length=_:=lL _ _;rw[this];exact dm fi)⟩
 obtain⟨r1,sC⟩:∃r,(dR o)[j]? =some r:=⟨_,br (by have:(dR o).length=_:=lL _ _;rw[this];exact dm fj)⟩
 refine⟨_,U,_,U,ba,ca,_,_,U,ab.of mN,ab.of fc,λL hL=>Lq (α:=Nat) (γ:=Nat) (λ_=>False) mM mM.mono (λk=>[r0,r1][k]?) hL (Hid.none _) (by show 2<=100000;decide) (ab.of mN) (ab.of fc) U (λu v=>rfl) ?_ ?_⟩
 ·intro k' H2 x y hx hy s2 aH Ky Kn h1 h2
  have w2:aa (Wo (λx=>x=t) H) H2:=(bB _ _).trans s2;refine oX ?_;match k',hx,hy with
  |0,hx,hy=>have ex:V.ref a0.p=x:=ay hx;have ey:nI i=y:=ay hy;subst ex ey;have S:=S0.mono w2;exact⟨_,U,_,_,_,_,_,U,S.obj,T.aF,T.oV,U,_,U,a0.l8,_,_,_,U,U,ab.of (S.get 8 U U),bH (kz (by rw[d0.ro];exact d7)),h1 r0 _ _ U (aa.refl _) U⟩
  |1,hx,hy=>have ex:V.ref a1.p=x:=ay hx;have ey:nI j=y:=ay hy;subst ex ey;have S:=S1.mono w2;exact⟨_,U,_,_,_,_,_,U,S.obj,T.aF,T.oV,U,_,U,a1.l8,_,_,_,U,U,ab.of (S.get 8 U U),bH (kz (by rw[d1.ro];exact sC)),h1 r1 _ _ U (aa.refl _) U⟩
  |k'+2,hx,hy=>simp at hx
 ·intro H2 acc s2 cH aH bh
  have ea:=AS bh;have ea:acc=[nI r0,nI r1]:=ea;subst ea;have nL:L≠t:=ig cH (s2 _ _ ht) (by intro z;cases z);obtain⟨vb,evb⟩:∃vb:Bool->V,vb=λb=>if b=true then .ref a1.p else .ref a0.p:=⟨_,U⟩
  obtain⟨Db,eDb⟩:∃Db:Bool->dn,Db=λb=>if b=true then D1 else D0:=⟨_,U⟩
  have uG:∀b,bq A (Wo (λx=>x=t) H) (vb b) (Db b):=λb=>by rw[evb,eDb];cases b;exact fW;exact jj
  have fN:∀b,dF (c4 s o b) (Db b):=λb=>by rw[eDb];cases b;exact d0;exact d1
  have Pu:∀b,(dR (c4 s o b))[lU i j b]? =some (if b=true then r1 else r0):=λb=>by cases b;exact d7;exact sC
  have AU:∀b:Bool,gi [V.ref a0.p,V.ref a1.p] (if b=true then 1 else 0)=some (vb b):=λb=>by rw[evb];cases b<;>rfl
  have ack:∀b:Bool,gi [nI i,nI j] (if b=true then 1 else 0)=some (nI (lU i j b)):=λb=>by cases b<;>rfl
  have up:∀{H':Hp},K1 t H2 H'->aa (Wo (λx=>x=t) H) (Wo (λx=>x=t) H'):=λk=>(bV s2).trans (qd λb o e hb=>k b o e hb);refine⟨_,U,t,_,_,U,s2 _ _ ht,U,_,U,ba,_,_,_,U,U,ab.of (s2 _ _ mN),bT,t,dx, .ref a0.p,D0,s,p,leaf,0,false,0,U,s2 _ _ ht,bq.mono _ _ _ _ (bV s2) fW,d0,hl,hp,λH3 p3 GR hp3 Am=>?_⟩;obtain⟨W,hW⟩:∃W:Nat->L2.St->Hp->Prop,W=λm σ' H'=>∃(z:Bool×Nat) (k' p' c':Nat),m=k-k'/\ k'<=k/\ iter (ic s o i j F) k' (false,leaf)=some z/\ z.2<Vanete.outer (c4 s o z.1)/\ (cv (c4 s o z.1))[(comesOut (c4 s o z.1) z.2).1]? =some p'/\
   σ'=[some (.ref t),some (.ref ba),some (.ref ca),some (.ref L),none,none]/\ K1 t H2 H'/\ H' t=some (.ins A.eQ dx (kC p' c' z.1 k')):=⟨_,U⟩
  refine⟨W,⟨_,by rw[hW];exact⟨(false,leaf),0,p3,_,U,bj _,U,hl,hp3,U,GR,Am⟩⟩,λm' σ' H' w'=>?_⟩;rw[hW]at w';obtain⟨z,k',p',c',rfl,zy,hz,nD,uE,rfl,kk,eY⟩:=w';have g:=m.good z.1;have ho:=(g.out nD).2.1;obtain⟨m1,m2,m3⟩:=xA g uE;obtain⟨f,κ,B,r,e,eD,h2,h3,h4,h5,h6⟩:=g.leaf m2;have ep:p'=r+e:=ay (uE.symm.trans h5);have how:(Db z.1).2.1[p']? =some f:=by rw[(fN z.1).ow,ep];exact h6
  have hfc:f<(c4 s o z.1).concl.length:=eD.outer.mp ho;have G5:=eD.of_left hfc;have jW:=m.Je z.1 G5;obtain⟨az,vsz,evz,Sz,ppz⟩:=bq.mono _ _ _ _ ((up kk).trans (bB _ _)) (uG z.1);have acp:=kk _ _ (s2 _ _ mN) nba;have acq:=kk _ _ (s2 _ _ fc) nca;refine⟨_,U,_,U,t,_,_,_,_,U,eY,T.dX,T.nF,U,ba,_,_,_,U,U,ab.of acp,AU z.1,az.p,_,_,_,_,evz,Sz.obj,T.aF,T.um,U,_,U,t,_,_,_,_,U,eY,T.dX,T.mr,U,az.l1,_,_,_,U,U,ab.of (Sz.get 1 U U),bH (kz how),_,U,_,U,t,_,_,_,_,U,eY,T.dX,T.nF,U,ca,_,_,_,U,U,ab.of acq,ack z.1,U,_,U,?_⟩;rw[show decide (nI f=nI (lU i j z.1))=decide (f=lU i j z.1)from jH _ _];by_cases hf:f=lU i j z.1
  ·have hib:=jW.mpr hf
   have eC:ic s o i j F z=some (!z.1,bX s o i j (!z.1)+((comesOut (c4 s o z.1) z.2).1-bX s o i j z.1)):=by unfold ic;simp only;rw[if_pos hib]
   have pf:k'<k:=by
    rcases og k' k with c|c
    ·exact c
    ·have e:k'=k:=by omega
     rw[e,k1]at hz;have ew:w=z:=ay hz;rw[ew,eC]at k2;cases k2
   obtain⟨_,b2,b3,_⟩:=pS m nD eC;simp only at b2 b3;have er:r=if z.1=true then r1 else r0:=by have:=Pu z.1;rw[<-hf]at this;exact ay (h2.symm.trans this)
   have hB:B=tN F z.1:=by have:=G5.fm;rw[hf]at this;exact ay (this.symm.trans (m.fm z.1))
   rw[decide_eq_true hf];refine aJ ⟨λσ' H'=>∃m',m'<k-k'/\ W m' σ' H',λ_ _ h=>h,?_⟩;refine⟨_,U,t,_,_,U,eY,U,_,U,t,dx,L,r0,r1,e,c',z.1,k',U,by rw[eY,ep,er],kk _ _ cH nL,λH4 kk4 uP=>?_⟩;have G6:K1 t H2 H4:=λb o e hb=>kk4 b o (kk b o e hb) hb;have acu:=G6 _ _ (s2 _ _ mN) nba;have a2:=m.at (!z.1) b2;obtain⟨r',d',q1,q2,_,q4⟩:=(a2.left (b:=cM (c4 s o (!z.1)).cuts)).root 0 (m.good (!z.1)).mul;have er':r'=if z.1=true then r0 else r1:=by have:=Pu (!z.1);have q1:(dR (c4 s o (!z.1)))[lU i j (!z.1)]? =some r':=q1;have e:=ay (q1.symm.trans this);rw[e];cases z.1<;>rfl
   have hκ:κ=(comesOut (c4 s o z.1) z.2).1-bX s o i j z.1:=by have h:=G5.eq;rw[hf]at h;have:bX s o i j z.1=cQ (c4 s o z.1).concl (lU i j z.1):=rfl;omega
   have ed:d'=e:=by rw[hB,m.cK]at h3;rw[m.cK,Nat.add_sub_cancel_left,<-hκ]at q2;exact ay (q2.symm.trans h3)
   have q4:(cv (c4 s o (!z.1)))[bX s o i j (!z.1)+((comesOut (c4 s o z.1) z.2).1-bX s o i j z.1)]? =some (r'+d'):=q4;refine⟨_,U,t,_,_,U,uP,U,_,U,_,U,t,_,_,_,_,U,uP,T.dX,T.nF,U,ba,_,_,_,U,U,ab.of acu,AU (!z.1),t,dx,vb (!z.1),Db (!z.1),c4 s o (!z.1),_,_,c',!z.1,k'+1,U,uP,bq.mono _ _ _ _ (up G6) (uG (!z.1)),fN (!z.1),b3,by rw[q4,er',ed],λH5 p5 kk5 AV ht5=>⟨k-(k'+1),by omega,?_⟩⟩;rw[hW];exact⟨_,k'+1,p5,_,U,pf,by show(iter (ic s o i j F) k' (false,leaf)).bind (ic s o i j F)=_;rw[hz];exact eC,b3,AV,U,λb o e hb=>kk5 b o (G6 b o e hb) hb,ht5⟩
  ·have eC:ic s o i j F z=none:=by
    unfold ic;simp only;rw[if_neg (λc=>hf (jW.mp c))]
   have pf:k'=k:=by
    rcases og k' k with c|c
    ·rw[G3 hz eC _ c]at k1;cases k1
    ·omega
   rw[pf,k1]at hz;have ew:w=z:=ay hz;subst ew;rw[decide_eq_false hf];refine aA (q H' p' c' (λb o e hb=>kk b o (s2 _ _ e) hb) uE ho ?_);rw[<-pf];exact eY
def clF(l:Addr):List (Str×V):=[("labels", .ref l)]
def CL(A:aE)(H:Hp)(c:Addr)(ns:List Nat):Prop:=∃dx l,H c=some (.ins A.kf dx (clF l))/\ H l=some (.lst (ns.map nI))
def acz(A:aE):Sp:=λvs H Q _=>∃(c dx:Addr) (n:Nat),vs=[.ref c,nI n]/\ H c=some (.ins A.kf dx [])/\ n<=10000/\ ∀H',K1 c H H'->CL A H' c (List.range n)->Q .aO H'
theorem acA(T:Txt K mg A):Gd P w K mg base 1 A.zT A.LM ["self","count"] (acz A):=by
 refine T.Xx.go (N:=["self","count"]) ?_;rintro aC A' outer s H vs Q E hr nd ⟨c,dx,n,rfl,hc,hn,q⟩;refine⟨_,(ag (cn (pv 0) (oG (abX U) (by rfl) T.wC Pj (fM (oG abW (by rfl) T.z6 boot_range (aj (pv 1))) bY)))),?_⟩;refine⟨_,U,_,U,λr d7=>⟨r,n,U,ae,by omega,λl hl=>?_⟩⟩;have s1:=aa.new (o:= .rj 0 (n:Int)) d7;have s2:=aa.new (o:= .lst ((List.range n).map λi:Nat=>V.int (i:Int))) hl;have jI:=(s1.trans s2) _ _ hc;have ncl:l≠c:=λe=>by rw[e]at hl;rw[s1 _ _ hc]at hl;cases hl
 refine⟨_,U,c,_,_,_,U,jI,T.kg,T.qj,(by show 0<1000;decide),?_⟩;refine q _ (λb o e hb=>by rw[aD hb];exact(s1.trans s2) _ _ e) ⟨dx,l,ae,?_⟩;rw[aD ncl,ae];rfl
theorem AW{ns:List Nat}{a:Nat}(h:a<ns.length):ns[a]? =some (ns.getD a 0):=by rw[br h,eX (br h)]
def acB(A:aE):Sp:=λvs H Q _=>∃(c:Addr) (ns:List Nat) (a b:Nat),vs=[.ref c,nI a,nI b]/\ CL A H c ns/\ a<ns.length/\ b<ns.length/\ Q (.bl (together a b ns)) H
theorem Pw(T:Txt K mg A):Gd P w K mg base 1 A.D7 A.LO ["self","first","second"] (acB A):=by
 refine T.Xy.go (N:=["self","first","second"]) ?_;rintro aC A' outer s H vs Q E hr nd ⟨c,ns,a,b,rfl,⟨dx,l,hc,hl⟩,ha,hb,q⟩;refine⟨_,(ag (aB (lq cj (aT (ao (pv 0)) (pv 1)) (aT (ao (pv 0)) (pv 2))))),?_⟩;refine⟨_,U,c,_,_,_,_,U,hc,T.kg,T.qj,U,_,U,l,_,_,_,U,U,ab.of hl,bH (kz (AW ha)),_,U,c,_,_,_,_,U,hc,T.kg,T.qj,U,_,U,l,_,_,_,U,U,ab.of hl,bH (kz (AW hb)),U,?_⟩;have e:decide (nI (ns.getD a 0)=nI (ns.getD b 0))=together a b ns:=by rw[show decide (nI (ns.getD a 0)=nI (ns.getD b 0))=decide (ns.getD a 0=ns.getD b 0)from jH _ _];unfold together;rw[iG];simp
 rw[<-e]at q;exact q
def acC(A:aE):Sp:=λvs H Q _=>∃(c:Addr) (ns:List Nat) (a b:Nat),vs=[.ref c,nI a,nI b]/\ CL A H c ns/\ a<ns.length/\ b<ns.length/\ ns.length<=10000/\
 if together a b ns=true then Q (.bl false) H else∀H',K1 c H H'->CL A H' c (lP a b ns)->Q (.bl true) H'
theorem Px(T:Txt K mg A):Gd P w K mg base 2 A.D8 A.LP ["self","first","second"] (acC A):=by
 refine T.Xz.go (N:=["self","first","second","kept","lost","label"]) ?_;rintro aC A' outer s H vs Q E hr nd ⟨c,ns,a,b,rfl,bD,ha,hb,hn,q⟩;refine⟨_,(af (a9 (dC (bN hr (Pw T) T.kg T.Nv (pv 0) (aY (pv 1) (pv 2)))) (ag (aB iP)) bt)
  (af (aN 3 nd (aT (ao (pv 0)) (pv 1)))
  (af (aN 4 nd (aT (ao (pv 0)) (pv 2)))
  (af (cn (pv 0) (mj U nd (eE (ao (pv 0))) (jF (own:=[("label",5)]) (by show iS ["self","first","second","kept","lost","label"] (d5 (inClass (top 40) 2)) _ _=true;decide+kernel)) (λ_ _ _ _ _=>(cx 5 nd)) (λ_ _ _ _ _=>oN) (λ_ _ _ _ _=>(kW (aR cj (pv 5) (pv 4)) (pv 3) (pv 5)))))
  (ag (aB iP)))))),?_⟩
 obtain⟨dx,l,hc,hl⟩:=id bD;refine⟨_,U,c,_,_,U,hc,U,_,U,_,U,c,ns,a,b,U,bD,ha,hb,_,U,?_⟩;by_cases ht:together a b ns=true
 ·rw[if_pos ht]at q
  rw[ht];exact aJ q
 ·rw[if_neg ht]at q
  have ht:together a b ns=false:=by simpa using ht
  rw[ht];refine aA ⟨_,U,c,_,_,_,_,U,hc,T.kg,T.qj,U,_,U,l,_,_,_,U,U,ab.of hl,bH (kz (AW ha)),?_⟩;refine⟨_,U,c,_,_,_,_,U,hc,T.kg,T.qj,U,_,U,l,_,_,_,U,U,ab.of hl,bH (kz (AW hb)),?_⟩;refine⟨_,U,c,_,_,_,_,U,hc,T.kg,T.qj,U,l,U,⟨_,ab.of hl⟩,λL hL=>oS (λ_=>False) mM mM.mono ns (λz=>some (if z=ns.getD b 0 then ns.getD a 0 else z)) hL (Hid.none _) (by rw[aI];omega) (ab.of hl) (by rw[aI]) ?_ ?_⟩
  ·intro i H2 x z hx hz s2 aH Ky Kn h1 h2
   obtain⟨z',mi,rfl⟩:=lu hx;have e:z'=z:=ay (mi.symm.trans hz);subst e;refine⟨U,oX ⟨_,U,_,U,U,_,U,?_⟩⟩;rw[show decide (nI z'=nI (ns.getD b 0))=decide (z'=ns.getD b 0)from jH _ _];by_cases e:z'=ns.getD b 0
   ·rw[decide_eq_true e]
    exact aJ ⟨_,U,h1 _ _ _ (by rw[if_pos e]) (aa.refl _) U⟩
   ·rw[decide_eq_false e]
    exact aA ⟨_,U,h1 _ _ _ (by rw[if_neg e]) (aa.refl _) U⟩
  ·intro H2 acc s2 cH aH bh
   rw[sY]at bh;have ea:=AS bh;subst ea;have ncl:L≠c:=ig cH (s2 _ _ hc) (by intro z;cases z);refine⟨_,U,c,_,_,_,U,s2 _ _ hc,T.kg,T.qj,(by show 1<1000;decide),q _ (λb o e hb=>by rw[aD hb];exact s2 _ _ e) ⟨dx,L,ae,?_⟩⟩;rw[aD ncl,cH];rfl
theorem any_cast(as:List Nat)(a:Nat):(as.map λn:Nat=>(n:Int)).any (·==(a:Int))=as.any (·==a):=by rw[List.any_map];congr 1;funext x;show((x:Int)==(a:Int))=(x==a);rw[iG,beq_iff_eq,beq_iff_eq];omega
theorem G7:∀(l as:List Nat),((l.map λn:Nat=>(n:Int)).foldl step_dedup (as.map λn:Nat=>(n:Int))).length=as.length+(l.filter λb=> !as.any (·==b)).eraseDups.length
 |[],as=>by simp
 |a::r,as=>by
  rw[da,qM,kM];unfold step_dedup;rw[any_cast];cases h:as.any (·==a)with
  |true=>rw[if_pos U,if_neg (by simp)];exact G7 r as
  |false=>
   rw[if_neg (by simp),if_pos (by rfl:(!false)=true),uU,aX,List.filter_filter];have:=G7 r (as++[a]);rw[gD]at this;rw[show[a].map (λn:Nat=>(n:Int))=[(a:Int)]from rfl]at this;unfold step_dedup at this;rw[this,bL];have e:(r.filter λb=> !(as++[a]).any (·==b))=r.filter λb=>(!b==a)&& !as.any (·==b):=by refine List.filter_congr λy _=>?_;rw[List.any_append,Bool.not_or,Bool.and_comm];congr 1;rw[n9,yd,qO,Bool.beq_comm (a:=a)]
   rw[e];show as.length+1+_=as.length+(_+1);omega
theorem acD(ns:List Nat):(firstM (ns.map λn:Nat=>(n:Int))).length=countParts ns:=by
 unfold firstM firstMet countParts;have e:((List.range (ns.map λn:Nat=>(n:Int)).length).map λi=>(ns.map λn:Nat=>(n:Int)).getD i 0)=ns.map λn:Nat=>(n:Int):=by
  apply x4;intro i;by_cases hi:i<ns.length
  ·rw[ez,qK (by rw[aI];exact hi),lD,br (by rw[aI];exact hi),nZ,br (by rw[aI];exact hi)];rfl
  ·rw[jQ (by simp;omega),jQ (by simp;omega)]
 rw[e];have:=G7 ns [];rw[pG]at this;rw[this];rw[show(ns.filter λb=> !([]:List Nat).any (·==b))=ns from xT.mpr λ_ _=>rfl];simp
def acE(A:aE):Sp:=λvs H Q _=>∃(c:Addr) (ns:List Nat),vs=[.ref c]/\ CL A H c ns/\ ns.length<=4000/\ ∀H',aa H H'->Q (nI (countParts ns)) H'
theorem acF(T:Txt K mg A):Gd P w K mg base 1 A.D9 A.LQ ["self"] (acE A):=by
 refine T.XA.go (N:=["self"]) ?_;rintro aC A' outer s H vs Q E hr nd ⟨c,ns,rfl,⟨dx,l,hc,hl⟩,hn,q⟩;refine⟨_,(ag (aB (pY abZ (by rfl) T.c6 PySem.boot_len (fM (oG (abY U) (by rfl) T.VB abS (aj (ao (pv 0)))) bY)))),?_⟩;have e:ns.map nI=(ns.map λn:Nat=>(n:Int)).map V.int:=by rw[jO];rfl
 refine⟨_,U,c,_,_,_,_,U,hc,T.kg,T.qj,U,l,_,U,ab.of (by rw[<-e];exact hl),by rw[aI];exact hn,λr d7=>⟨r,_,_,U,ae,?_⟩⟩;rw[acD];exact q _ (aa.new d7)
theorem AX{H0 H:Hp}{l t:Addr}{acc:List V}{es:List (Nat×Nat)}{x y:Nat}(sm:aa H0 H)(h0:H0 l=none)(hl:H l=some (.lst acc))(hp:Paired (d6 (Wo (λb=>b=l) H)) acc es)(ht:H t=none):
  aa H0 (upd (upd H t (.tup [nI x,nI y])) l (.lst (acc++[.ref t])))/\ Paired (d6 (Wo (λb=>b=l) (upd (upd H t (.tup [nI x,nI y])) l (.lst (acc++[.ref t]))))) (acc++[.ref t]) (es++[(x,y)]):=by
 have s1:=aa.new (o:= .tup [nI x,nI y]) ht;refine⟨c5 (sm.trans s1) h0,?_⟩;rw[dP (P:=λb=>b=l) U];refine ke (bO (λ_ _ r=>d6.mono _ _ _ _ (bV s1) r) hp) ⟨t,U,?_⟩;have ntl:¬t=l:=λc=>by rw[c,hl]at ht;cases ht
 rw[cR (P:=λb=>b=l) ntl,ae];rfl
theorem acG{s:Net}{D:dn}(d:dF s D){r:Nat}(h:r∈dR s):D.1.turns[r]? =some (gc s r:Int):=by
 obtain⟨f,hf⟩:=jN.mp h;have hl:(dR s).length=(formulas s).length:=lL _ _;have hF:(formulas s)[f]? =some ((formulas s)[f]'(by rw[<-hl];exact dm hf)):=br _;generalize (formulas s)[f]'(by rw[<-hl];exact dm hf)=F at hF;have hm:=d.good.mul F (bC hF);obtain⟨_,sg⟩:=yN d.good.mul hF hf;have hb:D.1.below[r]? =some (-1):=by have:=(sg 0 (fz F)).1;rw[jr,pC,(ou F r (-1) (-1) hm).1]at this;rw[d.be];exact this
 have hr:r<(aQ s).length:=by have h1:=m7 _ _ r h;have e:(aQ s).length=bf (formulas s):=jV _ _ d.good.mul;omega
 unfold gc;cases hs:Vanetg.standOf (Vanetg.stands s) r with
 |concl=>exact(d.arr.concl hr hs).2
 |cut q=>exact(d.arr.cut hr hs).2
 |tensor j q b=>have:=(d.arr.d9 hs).1;rw[hb]at this;have e:=ay this;omega
 |par j b=>have:=(d.arr.par hs).1;rw[hb]at this;have e:=ay this;omega
theorem bq.AY{A:aE}{H:Hp}{a:eK}{vs:List V}{D:dn}(S:dE A H a (fE vs D.1 D.2.1 D.2.2.1) (D.1.jc:Int) (D.2.2.2:Int))(p:Paired (bZ H) vs D.1.nodes):AF A H a.p D.1.nodes:=⟨a.dx,_,a.l0,vs,S.obj,U,S.get 0 U U,p⟩
theorem G8{α:Type}(Pr:α->Bool)(l:List α)(k:Nat):(idx Pr l k).length<=l.length:=by rw[GL];exact sQ _ _
theorem Py{s:Net}{d9:Bool}{t:Vanetc.Par}(h:t∈gx d9 (aQ s) 0):jL s t.1 t.2.1 t.2.2:=by
 obtain⟨p,e1,e2⟩:=Cq h;rw[ft]at e1;rw[e1];cases d9 with
 |true=>exact .inl e2
 |false=>exact .inr e2
theorem Pz:∀(l:List Formula),l.length<=bf l
 |[]=>aM _
 |F::r=>by have:=Pz r;have:=fz F;simp only[bf,aX];omega
def acH(A:aE):Sp:=λvs H Q _=>∃(v:V) (D:dn) (s:Net),vs=[v]/\ bq A H v D/\ dF s D/\ ∀v' H',aa H H'->cS d6 H' v' (Vanetc.edges s)->(Vanetc.edges s).length<=10000->Q v' H'
theorem acI(T:Txt K mg A):Gd P w K mg base 3 A.Ea A.LS ["points"] (acH A):=by
 refine T.XC.go (N:=["points","found","tensor","point","root"]) ?_;rintro aC A' outer s H vs Q E hr nd ⟨v,D,s,rfl,hv,d,q⟩;refine⟨_,(af (aN 1 nd (aS bY))
  (af (eZ PassesOwn.never U (eE (bN hr (OM T) T.aF T.NM (pv 0) (aj (aW T.wG)))) (cx 2 nd) (af (bF (dD (pv 1) (gh (aY (pv 2) (bN hr (qD T) T.aF T.qi (pv 0) (aY (pv 2) ak))))))
  (ag (bF (dD (pv 1) (gh (aY (pv 2) (bN hr (qD T) T.aF T.qi (pv 0) (aY (pv 2) ak)))))))))
  (af (eZ PassesOwn.never U (eE (dO hr (GB T) T.aF T.FL (pv 0))) (cx 3 nd) (ag (a9 (aR iq (pv 3) (aT (ao (pv 0)) (pv 3))) (ag (bF (dD (pv 1) (gh (aY (pv 3) (aT (ao (pv 0)) (pv 3))))))) bt)))
  (af (eZ PassesOwn.never U (eE (ao (pv 0))) (cx 4 nd) (ag (a9 (aR iq (pv 4) (aT (ao (pv 0)) (pv 4))) (ag (bF (dD (pv 1) (gh (aY (pv 4) (aT (ao (pv 0)) (pv 4))))))) bt)))
  (ag (aB (pv 1))))))),?_⟩
 obtain⟨a,vs,rfl,S,pp⟩:=id hv;have uN:=d.bd;have f7:=d.arr.ln;refine⟨bj _,λl hl=>?_⟩;have s0:=aa.new (o:= .lst []) hl;refine⟨_,U,a.p,_,_,U,s0 _ _ S.obj,U,a.p,D.1.nodes,2,U,bq.AY (S.mono s0) (bO (λ_ _ r=>bZ.mono _ _ _ _ s0 r) pp),by rw[f7];show(aQ s).length<=100000;omega,λfa H1 s1 G9 fF=>?_⟩;have ph:=Jt d.arr true;have ph:idx (λx=>x.1==2) D.1.nodes 0=(gx true (aQ s) 0).map (·.1):=ph;have hjl:(gx true (aQ s) 0).length<=(aQ s).length:=by have:=G8 (λx:Node=>x.1==2) D.1.nodes 0;rw[ph,aI,f7]at this;exact this
 rw[ph]at fF;have kE:∀t∈gx true (aQ s) 0,jL s t.1 t.2.1 t.2.2:=λ_ h=>Py h;have ete:Vanetc.edges s=((gx true (aQ s) 0).flatMap λt=>[(t.1,t.2.1),(t.1,t.2.2)])++((cv s).filterMap (fg (partner s))++(dR s).filterMap (fg (gc s))):=by unfold Vanetc.edges;rw[Jm,Jp d.good,Jr d.good]
 have nfl:fa≠l:=λc=>by rw[c,ae]at G9;cases G9
 have qo:H1 l=some (.lst []):=s1 _ _ ae;have xu:aa H H1:=s0.trans s1;generalize gx true (aQ s) 0=ts at fF hjl ete kE;refine⟨fa,U,⟨_,ab.of fF⟩,gL (xs:=(ts.map (·.1)).map nI) (λi σ' H'=>∃(u:Option V) (acc:List V),σ'=[some (.ref a.p),some (.ref l),u,none,none]/\ aa H H'/\ H' fa=some (.lst ((ts.map (·.1)).map nI))/\ H' l=some (.lst acc)/\ acc.length=2*i/\ Paired (d6 (Wo (λb=>b=l) H')) acc ((ts.take i).flatMap λt=>[(t.1,t.2.1),(t.1,t.2.2)]))
  ⟨none,[],U,xu,fF,qo,U, .nil⟩ (λi σ' H' _ ⟨_,_,_,_,h,_⟩=>ab.of h) ?_ ?_⟩
 ·rintro i x σ' H' hx ⟨u,acc,rfl,sm,AZ,dH,eg,bh⟩
  rw[jO]at hx;obtain⟨t,ht,rfl⟩:=lu hx;have hi:=dm ht;have hJ:jL s t.1 t.2.1 t.2.2:=kE t (bC ht);have A0:2*i<=1000:=by omega
  have t6:=bq.mono _ _ _ _ sm hv;have S':=S.mono sm;refine⟨_,U, .inl ⟨U,_,ab.of dH⟩,_,U,_,U,a.p,_,_,U,S'.obj,U,_,U, .ref a.p,D,s,t.1,t.2.1,t.2.2,false,U,t6,d,hJ,gm,λz hz=>?_⟩;obtain⟨e1,e2⟩:=AX (x:=t.1) (y:=t.2.1) sm hl dH bh hz;have nzl:z≠l:=λc=>by rw[c,dH]at hz;cases hz
  refine⟨l,_,_,U,U,aa.new hz _ _ dH,dk (by omega),?_⟩;have acK:upd (upd H' z (.tup [nI t.1,nI t.2.1])) l (.lst (acc++[.ref z])) fa=some (.lst ((ts.map (·.1)).map nI)):=by rw[aD nfl];exact aa.new hz _ _ AZ
  refine⟨_,U, .inl ⟨U,_,ab.of ae⟩,_,U,_,U,a.p,_,_,U,(S.mono e1).obj,U,_,U, .ref a.p,D,s,t.1,t.2.1,t.2.2,true,U,bq.mono _ _ _ _ e1 hv,d,hJ,gm,λz2 sG=>?_⟩;obtain⟨e3,e4⟩:=AX (x:=t.1) (y:=t.2.2) e1 hl ae e2 sG;refine⟨l,_,_,U,U,aa.new sG _ _ ae,dk (by simp;omega),_,_,U,e3,?_,ae,by simp;omega,?_⟩
  ·rw[aD nfl];exact aa.new sG _ _ acK
  ·rw[iy ht,px]
   have:([t].flatMap λt:Vanetc.Par=>[(t.1,t.2.1),(t.1,t.2.2)])=[(t.1,t.2.1)]++[(t.1,t.2.2)]:=rfl;rw[this,<-fK];exact e4
 ·rintro σ' H' ⟨u,acc,rfl,sm,AZ,dH,eg,bh⟩
  rw[aI,aI,kK]at bh;have eg:acc.length<=500:=by rw[aI,aI]at eg;omega
  generalize (ts.flatMap λt:Vanetc.Par=>[(t.1,t.2.1),(t.1,t.2.2)])=PB at bh ete;have S':=S.mono sm;refine⟨_,U,a.p,_,_,U,S'.obj,U,a.p,D.1.nodes,U,bq.AY S' (bO (λ_ _ r=>bZ.mono _ _ _ _ sm r) pp),xp d,by rw[f7];show(aQ s).length<=100000;omega,λfb H2 s2 xB nR=>?_⟩;rw[yQ d.arr]at nR;have nfb:fb≠l:=λc=>by rw[c,dH]at xB;cases xB
  have gw:(cv s).length<=(aQ s).length:=by have:=G8 (λx:Node=> !bR x) D.1.nodes 0;rw[yQ d.arr,f7]at this;exact this
  have mJ:∀p∈cv s,D.1.partners[p]? =some (partner s p:Int):=λp hp=>by obtain⟨i,hi⟩:=jN.mp hp;exact(d.arr.leaf (xA d.good hi).1).2
  have jM:aa H H2:=sm.trans s2;have xC:=bO (λ_ _ r=>d6.mono _ _ _ _ (bV (P:=λb=>b=l) s2) r) bh;have fh:=s2 _ _ dH;generalize cv s=ls at nR gw mJ ete;refine⟨fb,U,⟨_,ab.of nR⟩,gL (xs:=ls.map nI) (λi σ' H'=>∃(u':Option V) (acc:List V),σ'=[some (.ref a.p),some (.ref l),u,u',none]/\ aa H H'/\ H' fb=some (.lst (ls.map nI))/\ H' l=some (.lst acc)/\ acc.length<=500+i/\ Paired (d6 (Wo (λb=>b=l) H')) acc (PB++(ls.take i).filterMap (fg (partner s))))
   ⟨none,acc,U,jM,nR,fh,eg,by simpa using xC⟩ (λi σ' H' _ ⟨_,_,_,_,h,_⟩=>ab.of h) ?_ ?_⟩
  ·clear bh xC eg dH fh AZ S' jM sm s2 nR xB
   rintro i x σ' H' hx ⟨u',acc,rfl,sm,xD,dH,eg,bh⟩;obtain⟨p,hp,rfl⟩:=lu hx;have hi:=dm hp;have gR:=mJ p (bC hp);have S':=S.mono sm;have iU:(ls.take (i+1)).filterMap (fg (partner s))=(ls.take i).filterMap (fg (partner s))++(if p<partner s p then[(p,partner s p)]else[]):=by
    rw[iy hp,uY];congr 1;unfold fg;by_cases c:p<partner s p
    ·rw[if_pos c];simp[c]
    ·rw[if_neg c];simp[c]
   refine⟨_,U,_,U,_,_,_,_,_,U,S'.obj,T.aF,T.oT,U,_,U,a.l6,_,_,_,U,U,ab.of (S'.get 6 U U),bH (fY gR),_,_,U,U,_,U,?_⟩;by_cases c:p<partner s p
   ·rw[if_pos c]at iU
    rw[show decide ((p:Int)<(partner s p:Int))=true from decide_eq_true (by omega)];refine aJ ⟨_,U, .inl ⟨U,_,ab.of dH⟩,_,U,_,U,_,_,_,_,_,U,S'.obj,T.aF,T.oT,U,_,U,a.l6,_,_,_,U,U,ab.of (S'.get 6 U U),bH (fY gR),gm,λz hz=>?_⟩;obtain⟨e1,e2⟩:=AX (x:=p) (y:=partner s p) sm hl dH bh hz;refine⟨l,_,_,U,U,aa.new hz _ _ dH,dk (by omega),_,_,U,e1,by rw[aD nfb];exact aa.new hz _ _ xD,ae,by simp;omega,?_⟩;rw[iU,<-fK];exact e2
   ·rw[if_neg c,iD]at iU
    rw[show decide ((p:Int)<(partner s p:Int))=false from decide_eq_false (by omega)];exact aA ⟨_,acc,U,sm,xD,dH,by omega,by rw[iU];exact bh⟩
  ·clear bh xC eg dH fh AZ S' jM sm s2 nR xB
   rintro σ' H' ⟨u',acc,rfl,sm,xD,dH,eg,bh⟩;rw[aI,kK]at bh;have eg:acc.length<=800:=by rw[aI]at eg;omega
   have S':=S.mono sm;have mH:=S'.get 8 U U;rw[d.ro]at mH;have tK:(dR s).length<=240:=by have e:(dR s).length=(formulas s).length:=lL _ _;have e2:(aQ s).length=bf (formulas s):=jV _ _ d.good.mul;have e3:(formulas s).length<=bf (formulas s):=Pz _;omega
   rw[<-fK]at ete;generalize PB++ls.filterMap (fg (partner s))=es1 at bh ete;have nrl:a.l8≠l:=λc=>by have:=S.get 8 U U;rw[c,hl]at this;cases this
   have AR:∀r∈dR s,D.1.turns[r]? =some (gc s r:Int):=λr hr=>acG d hr;generalize dR s=rs at mH tK AR ete;refine⟨_,U,_,_,_,_,_,U,S'.obj,T.aF,T.oV,U,a.l8,U,⟨_,ab.of mH⟩,gL (xs:=rs.map nI) (λi σ' H'=>∃(u'':Option V) (acc:List V),σ'=[some (.ref a.p),some (.ref l),u,u',u'']/\ aa H H'/\ H' a.l8=some (.lst (rs.map nI))/\ H' l=some (.lst acc)/\ acc.length<=800+i/\ Paired (d6 (Wo (λb=>b=l) H')) acc (es1++(rs.take i).filterMap (fg (gc s))))
    ⟨none,acc,U,sm,mH,dH,eg,by simpa using bh⟩ (λi σ' H' _ ⟨_,_,_,_,h,_⟩=>ab.of h) ?_ ?_⟩
   ·clear bh eg dH S' sm mH xD
    rintro i x σ' H' hx ⟨u'',acc,rfl,sm,G_,dH,eg,bh⟩;obtain⟨p,hp,rfl⟩:=lu hx;have hi:=dm hp;have gR:=AR p (bC hp);have S':=S.mono sm;have iU:(rs.take (i+1)).filterMap (fg (gc s))=(rs.take i).filterMap (fg (gc s))++(if p<gc s p then[(p,gc s p)]else[]):=by
     rw[iy hp,uY];congr 1;unfold fg;by_cases c:p<gc s p
     ·rw[if_pos c];simp[c]
     ·rw[if_neg c];simp[c]
    refine⟨_,U,_,U,_,_,_,_,_,U,S'.obj,T.aF,T.oU,U,_,U,a.l7,_,_,_,U,U,ab.of (S'.get 7 U U),bH (fY gR),_,_,U,U,_,U,?_⟩;by_cases c:p<gc s p
    ·rw[if_pos c]at iU
     rw[show decide ((p:Int)<(gc s p:Int))=true from decide_eq_true (by omega)];refine aJ ⟨_,U, .inl ⟨U,_,ab.of dH⟩,_,U,_,U,_,_,_,_,_,U,S'.obj,T.aF,T.oU,U,_,U,a.l7,_,_,_,U,U,ab.of (S'.get 7 U U),bH (fY gR),gm,λz hz=>?_⟩;obtain⟨e1,e2⟩:=AX (x:=p) (y:=gc s p) sm hl dH bh hz;refine⟨l,_,_,U,U,aa.new hz _ _ dH,dk (by omega),_,_,U,e1,by rw[aD nrl];exact aa.new hz _ _ G_,ae,by simp;omega,?_⟩;rw[iU,<-fK];exact e2
    ·rw[if_neg c,iD]at iU
     rw[show decide ((p:Int)<(gc s p:Int))=false from decide_eq_false (by omega)];exact aA ⟨_,acc,U,sm,G_,dH,by omega,by rw[iU];exact bh⟩
   ·clear bh eg dH S' sm mH xD
    rintro σ' H' ⟨u'',acc,rfl,sm,G_,dH,eg,bh⟩;rw[aI,kK]at bh;rw[<-ete]at bh;have bK:=ck bh;exact⟨_,U,q _ _ sm ⟨l,acc,U,dH,bO (λ_ _ r=>d6.mono _ _ _ _ (bB _ _) r) bh⟩ (by rw[aI]at eg;omega)⟩
def acM(A:aE):Sp:=λvs H Q _=>∃(v:V) (D:dn) (s:Net) (c:Addr) (ns:List Nat) (j l r:Nat),vs=[v, .ref c,nI j]/\ bq A H v D/\ dF s D/\ jL s j l r/\ CL A H c ns/\ l<ns.length/\ r<ns.length/\ Q (.bl (together l r ns)) H
theorem PD(T:Txt K mg A):Gd P w K mg base 2 A.Ec A.LV ["points","clusters","par"] (acM A):=by refine T.XE.go (N:=["points","clusters","par"]) ?_;rintro aC A' outer s H vs Q E hr nd ⟨v,D,s,c,ns,j,l,r,rfl,hv,d,hJ,bD,hl,hr',q⟩;refine⟨_,(ag (aB (bN hr (Pw T) T.kg T.Nv (pv 1) (aY (bN hr (qD T) T.aF T.qi (pv 0) (aY (pv 2) ak)) (bN hr (qD T) T.aF T.qi (pv 0) (aY (pv 2) ak)))))),?_⟩;obtain⟨a,vs,rfl,S,pp⟩:=id hv;obtain⟨dx,la,hc,jk⟩:=id bD;exact⟨_,U,c,_,_,U,hc,U,_,U,a.p,_,_,U,S.obj,U,_,U, .ref a.p,D,s,j,l,r,false,U,hv,d,hJ,_,U,a.p,_,_,U,S.obj,U,_,U, .ref a.p,D,s,j,l,r,true,U,hv,d,hJ,c,ns,l,r,U,bD,hl,hr',q⟩
theorem G'{K:PySem.W.Frag}{H:Hp}:∀(l:List Nat),oM K H (l.map nI) (l.map λn:Nat=>PyData.int (n:Int))
 |[]=> .nil
 |b::t=> .cons (.int _) (G' t)
theorem PF(l:List Nat):iz (.list (l.map λn:Nat=>PyData.int (n:Int))) 1:=wU λx hx=>by obtain⟨b,_,rfl⟩:=c9.mp hx;exact Aj _
theorem Ha{α β:Type}(P:α->Bool)(g:α->β):∀(l:List α),(l.filterMap λx=>if P x=true then some (g x)else none)=(l.filter P).map g
 |[]=>rfl
 |a::r=>by
  rw[iF,kM,Ha P g r];by_cases h:P a=true
  ·rw[if_pos h,if_pos h];rfl
  ·rw[if_neg h,if_neg h]
theorem PH{α:Type}(P:α->Bool):∀l:List α,(l.filter P).length+(l.filter λt=> !P t).length=l.length
 |[]=>rfl
 |a::r=>by have:=PH P r;rw[kM,kM];cases P a<;>simp<;>omega
def acO(A:aE):Sp:=λvs H Q _=>∃(v:V) (D:dn) (s:Net) (c:Addr) (ns:List Nat),vs=[v, .ref c]/\ bq A (Wo (λb=>b=c) H) v D/\ dF s D/\ CL A H c ns/\ ns.length=(aQ s).length/\
 (∀H',K1 c H H'->drawn (pars s).length (pars s) ns=false->Q (.bl false) H')/\
 (∀H' iX,K1 c H H'->CL A H' c iX->iX.length=(aQ s).length->drawn (pars s).length (pars s) ns=(countParts iX==1)->Q (.bl true) H')
theorem acP(T:Txt K mg A):Gd P w K mg base 3 A.Eb A.LU ["points","clusters"] (acO A):=by
 refine T.XD.go (N:=["points","clusters","waiting","ready","par"]) ?_;rintro aC A' outer s H vs Q E hr nd ⟨v,D,s,c,Hb,rfl,fW,d,PJ,acQ,qF,qT⟩;refine⟨_,(af (aN 2 nd (bN hr (OM T) T.aF T.NM (pv 0) (aj (aW T.z9))))
  (af (j3 PassesOwn.never (aR (Di hr.units) (pv 2) (aS bY)) (af (Dv (i:=3) U nd U U (Dx U U U (by decide+kernel)) (eE (pv 2)) (jF (own:=[("par",4)]) (by show iS ["points","clusters","waiting","ready","par"] (d5 (top 43)) _ _=true;decide+kernel)) (λ_ _ _ _ _=>(cx 4 nd)) (λ_ _ _ _ _=>(wg (dC (aP hr (PD T) T.Ny (fM (pv 0) (aY (pv 1) (pv 4))))))) (λ_ _ _ _ _=>(pv 4)))
  (af (a9 (aR (mh hr.units) (pv 3) (aS bY)) (ag (aB iP)) bt)
  (af (Dv (i:=2) U nd U U (Dx U U U (by decide+kernel)) (eE (pv 2)) (jF (own:=[("par",4)]) (by show iS ["points","clusters","waiting","ready","par"] (d5 (top 43)) _ _=true;decide+kernel)) (λ_ _ _ _ _=>(cx 4 nd)) (λ_ _ _ _ _=>(wg (ij (dC (aP hr (PD T) T.Ny (fM (pv 0) (aY (pv 1) (pv 4)))))))) (λ_ _ _ _ _=>(pv 4)))
  (ag (eZ PassesOwn.never U (eE (pv 3)) (cx 4 nd) (ag (a9 (ij (dC (bN hr (Px T) T.kg T.Nw (pv 1) (aY (pv 4) (bN hr (qD T) T.aF T.qi (pv 0) (aY (pv 4) ak)))))) (ag (aB iP)) bt))))))))
  (ag (aB iP)))),?_⟩
 obtain⟨a,vs,rfl,S0,pp⟩:=id fW;have uN:=d.bd;have f7:=d.arr.ln;obtain⟨wY,la0,Pn,acS⟩:=id PJ;have up:∀{H':Hp},K1 c H H'->aa (Wo (λb=>b=c) H) H':=λk=>(qd λb o e hb=>k b o e hb).trans (bB _ _);have S:=S0.mono (bB _ _);refine⟨_,U,a.p,_,_,U,S.obj,U,a.p,D.1.nodes,3,U,bq.AY S (bO (λ_ _ r=>bZ.mono _ _ _ _ (bB _ _) r) pp),by rw[f7];show(aQ s).length<=100000;omega,λfa H1 s1 G9 fF=>?_⟩;have ph:=Jt d.arr false;have ph:idx (λx=>x.1==3) D.1.nodes 0=(gx false (aQ s) 0).map (·.1):=ph;rw[ph,<-yP]at fF;have F8:(pars s).length<=240:=by have:=G8 (λx:Node=>x.1==3) D.1.nodes 0;rw[ph,aI,f7,<-yP]at this;have h2:(pars s).length<=(aQ s).length:=this;omega
 have Hc:=Js d.good;have hpj:∀t∈pars s,jL s t.1 t.2.1 t.2.2:=λt ht=>by rw[yP]at ht;exact Py ht
 have k1:K1 c H H1:=λb o e _=>s1 _ _ e;have acU:CL A H1 c Hb:=⟨wY,la0,s1 _ _ Pn,s1 _ _ acS⟩
 generalize hd0:drawn (pars s).length (pars s) Hb=dr at qF qT;obtain⟨W,hW⟩:∃W:Nat->L2.St->Hp->Prop,W=λm σ' H'=>∃(ps:List Vanetc.Par) (wa:Addr) (ns:List Nat) (u v:Option V),m=ps.length/\ ps.length<=240/\ (∀t∈ps,jL s t.1 t.2.1 t.2.2)/\ pO (aQ s).length ps/\ σ'=[some (.ref a.p),some (.ref c),some (.ref wa),u,v]/\ K1 c H H'/\ CL A H' c ns/\ ns.length=(aQ s).length/\ H' wa=some (.lst ((ps.map (·.1)).map nI))/\ dr=drawn ps.length ps ns:=⟨_,U⟩
 refine⟨W,⟨_,by rw[hW];exact⟨pars s,fa,Hb,none,none,U,F8,hpj,Hc,U,k1,acU,acQ,fF,hd0.symm⟩⟩,λm σ' H' w'=>?_⟩;rw[hW]at w';obtain⟨ps,wa,ns,u,v,rfl,bK,hj,A1,rfl,kk,bD,j9,fG,sf⟩:=w';refine⟨_,U,bj _,λz hz=>?_⟩;have sz:=aa.new (o:= .lst []) hz;refine⟨_,_, .lst (ab.of (sz _ _ fG)) (G' _),mB ae,(PF _).shaped (by decide),mC,_,U,?_⟩;rw[mz,isEmpty_map,isEmpty_map];have Hd:K1 c H (upd H' z (.lst [])):=λb o e hb=>sz _ _ (kk b o e hb);have He:CL A (upd H' z (.lst [])) c ns:=by obtain⟨dx,la,h1,h2⟩:=bD;exact⟨dx,la,sz _ _ h1,sz _ _ h2⟩
 have xE:=sz _ _ fG;generalize upd H' z (.lst [])=H2 at Hd He xE⊢;cases eC:ps with
 |nil=>subst eC;exact aA (qT H2 ns Hd He j9 (by rw[sf];exact Rv ns))
 |cons p0 r0=>
  have b8:ps≠ []:=by rw[eC];simp
  have hem:ps.isEmpty=false:=by rw[eC];rfl
  rw[<-eC];rw[hem];refine aJ ⟨λσ' H'=>∃m',m'<ps.length/\ W m' σ' H',λ_ _ h=>h,?_⟩;have hmono:∀{H3:Hp},aa H2 H3->CL A H3 c ns:=λs3=>by obtain⟨dx,la,h1,h2⟩:=He;exact⟨dx,la,s3 _ _ h1,s3 _ _ h2⟩
  have kS:∀{H3:Hp},aa H2 H3->K1 c H H3:=λs3 b o e hb=>s3 _ _ (Hd b o e hb);have aU:∀t∈ps,t.1<ns.length/\ t.2.1<ns.length/\ t.2.2<ns.length:=λt ht=>by rw[j9];exact A1 t ht
  have A2:((ps.map (·.1)).map nI).length=ps.length:=by rw[aI,aI]
  refine⟨_,U,wa,U,⟨_,ab.of xE⟩,λL hL=>oS (λ_=>False) mM mM.mono ps (λt=>if isReady ns t=true then some t.1 else none) hL (Hid.none _) (by rw[A2];omega) (ab.of xE) A2 ?_ ?_⟩
  ·intro i H3 x t hx ht s3 aH Ky Kn h1 h2
   rw[jO]at hx;obtain⟨t',Hf,rfl⟩:=lu hx;have e:t'=t:=ay (Hf.symm.trans ht);subst e;have kE:=bC ht;refine⟨U,_,U,_,U,_,U, .ref a.p,D,s,c,ns,t'.1,t'.2.1,t'.2.2,U,bq.mono _ _ _ _ (up (kS s3)) fW,d,hj t' kE,hmono s3,(aU t' kE).2.1,(aU t' kE).2.2,_,U,?_⟩;cases hr:isReady ns t' with
   |true=>rw[show together t'.2.1 t'.2.2 ns=true from hr];exact aJ ⟨_,U,h1 _ _ _ (by rw[if_pos hr]) (aa.refl _) U⟩
   |false=>rw[show together t'.2.1 t'.2.2 ns=false from hr];exact aA (h2 _ (by rw[if_neg (by rw[hr];simp)]) (aa.refl _))
  ·intro H3 acc s3 cH aH bh
   have ea:=AS bh;rw[Ha (isReady ns) (λt:Vanetc.Par=>t.1)]at ea;subst ea;have hturn:=Rw j9 A1;rw[<-sf]at hturn;have tK:(ps.filter (isReady ns)).length<=ps.length:=sQ _ _;refine⟨_,U,bj _,λz3 Al=>?_⟩;have wO:=aa.new (o:= .lst []) Al;refine⟨_,_, .lst (ab.of (wO _ _ cH)) (G' _),mB ae,(PF _).shaped (by decide),mC,_,U,?_⟩;rw[mz,isEmpty_map,isEmpty_map];have s4:aa H2 (upd H3 z3 (.lst [])):=s3.trans wO;have PK:=wO _ _ cH;generalize upd H3 z3 (.lst [])=H4 at s4 PK⊢;cases pP:(ps.filter (isReady ns)).isEmpty with
   |true=>
    refine aJ (qF H4 (kS s4) ?_);have fw:∀p∈ps,isReady ns p=false:=λp hp=>by have e:=List.isEmpty_iff.mp pP;have:=List.filter_eq_nil_iff.mp e p hp;simpa using this
    rw[sf];exact Ru fw b8 _
   |false=>
    have acX:ps.filter (isReady ns)≠ []:=λc=>by rw[c]at pP;cases pP
    refine aA ⟨_,U,wa,U,⟨_,ab.of (s4 _ _ xE)⟩,λL2 hL2=>oS (λ_=>False) mM mM.mono ps (λt=>if(!isReady ns t)=true then some t.1 else none) hL2 (Hid.none _) (by rw[A2];omega) (ab.of (s4 _ _ xE)) A2 ?_ ?_⟩
    ·intro i H5 x t hx ht s5 aH Ky Kn h1 h2
     rw[jO]at hx;obtain⟨t',Hf,rfl⟩:=lu hx;have e:t'=t:=ay (Hf.symm.trans ht);subst e;have kE:=bC ht;have sI:=s4.trans s5;refine⟨U,_,U,_,U,_,U, .ref a.p,D,s,c,ns,t'.1,t'.2.1,t'.2.2,U,bq.mono _ _ _ _ (up (kS sI)) fW,d,hj t' kE,hmono sI,(aU t' kE).2.1,(aU t' kE).2.2,_,U,?_⟩;cases hr:isReady ns t' with
     |true=>rw[show together t'.2.1 t'.2.2 ns=true from hr];exact aA (h2 _ (by rw[hr];rfl) (aa.refl _))
     |false=>rw[show together t'.2.1 t'.2.2 ns=false from hr];exact aJ ⟨_,U,h1 _ _ _ (by rw[hr];rfl) (aa.refl _) U⟩
    ·intro H5 acc2 s5 Hg N1 xC
     have ea:=AS xC;rw[Ha (λt=> !isReady ns t) (λt:Vanetc.Par=>t.1)]at ea;subst ea;have sI:=s4.trans s5;have A3:=s5 _ _ PK;have PL:(ps.filter λt=> !isReady ns t).length<ps.length:=by have e:=PH (isReady ns) ps;have:0<(ps.filter (isReady ns)).length:=qQ.mpr acX;omega
     have rest1:∀t∈ps.filter λt=> !isReady ns t,t∈ps:=λt ht=>(sV.mp ht).1;have rdy1:∀t∈ps.filter (isReady ns),t∈ps:=λt ht=>(sV.mp ht).1;obtain⟨dx5,la5,PN,_⟩:=hmono sI;have nLc:L≠c:=ig A3 PN (by intro z;cases z);have nL2c:L2≠c:=ig Hg PN (by intro z;cases z);generalize afi:ps.filter (isReady ns)=rd at A3 hturn tK rdy1;generalize afj:(ps.filter λt=> !isReady ns t)=rs at Hg hturn PL rest1;refine⟨_,U,L,U,⟨_,ab.of A3⟩,gL (xs:=(rd.map (·.1)).map nI) (λi σ' H'=>∃(v':Option V) (iX:List Nat),σ'=[some (.ref a.p),some (.ref c),some (.ref L2),some (.ref L),v']/\ K1 c H5 H'/\ CL A H' c iX/\ iX.length=(aQ s).length/\ nh rd ns=nh (rd.drop i) iX)
      ⟨v,ns,U,λb o e _=>e,hmono sI,j9,by rw[kL]⟩ (λi σ' H' _ ⟨_,_,_,k',_⟩=>ab.of (k' _ _ A3 nLc)) ?_ ?_⟩
     ·rintro i x σ' H' hx ⟨v',iX,rfl,k',A4,xF,fI⟩
      rw[jO]at hx;obtain⟨t,ht,rfl⟩:=lu hx;have kE:=rdy1 t (bC ht);have Hh:rd.drop i=t::rd.drop (i+1):=by have e:=(cP.mp ht).2;rw[jP (dm ht),e]
      rw[Hh]at fI;have fH:=A1 t kE;have kH:K1 c H H':=λb o e hb=>k' _ _ (kS sI _ _ e hb) hb;have S6:=S0.mono (up kH);obtain⟨dx6,la6,Hi,ac1⟩:=id A4;refine⟨_,U,c,_,_,U,Hi,U,_,U,_,U,a.p,_,_,U,S6.obj,U,_,U, .ref a.p,D,s,t.1,t.2.1,t.2.2,false,U,bq.mono _ _ _ _ (up kH) fW,d,hj t kE,c,iX,t.1,t.2.1,U,A4,by rw[xF];exact fH.1,by rw[xF];exact fH.2.1,by omega,?_⟩;have Hj:nh (t::rd.drop (i+1)) iX=if together t.1 t.2.1 iX=true then none else nh (rd.drop (i+1)) (lP t.1 t.2.1 iX):=rfl;rw[Hj]at fI;by_cases eY:together t.1 t.2.1 iX=true
      ·rw[if_pos eY]at fI
       rw[if_pos eY];refine⟨_,U,aJ (qF H' kH ?_)⟩;rw[hturn,fI]
      ·rw[if_neg eY]at fI
       rw[if_neg eY];intro H7 k7 Hk;exact⟨_,U,aA ⟨_,_,U,λb o e hb=>k7 _ _ (k' _ _ e hb) hb,Hk,by rw[Ce];exact xF,fI⟩⟩
     ·rintro σ' H' ⟨v',iX,rfl,k',A4,xF,fI⟩
      rw[aI,aI,lG]at fI;have fI:nh rd ns=some iX:=fI;rw[fI]at hturn;have kH:K1 c H H':=λb o e hb=>k' _ _ (kS sI _ _ e hb) hb;refine⟨rs.length,PL,?_⟩;rw[hW];exact⟨rs,L2,iX,_,_,U,by omega,λt ht=>hj t (rest1 t ht),λt ht=>A1 t (rest1 t ht),U,kH,A4,xF,k' _ _ Hg nL2c,hturn⟩
theorem ac2{A:aE}{H:Hp}{v:V}{c dx:Addr}{fs:List (Str×V)}{es:List (Nat×Nat)}(hc:H c=some (.ins A.kf dx fs))(h:cS d6 H v es):cS d6 (Wo (λb=>b=c) H) v es:=by
 obtain⟨l,vs,rfl,hl,p⟩:=h;have ne:∀{x:Addr} {o:HO},H x=some o->o≠ .ins A.kf dx fs->Wo (λb=>b=c) H x=some o:=λ{x o} hx ho=>by rw[cR (P:=λb=>b=c) (λe=>by rw[e,hc]at hx;exact ho (ay hx).symm)];exact hx
 refine⟨l,vs,U,ne hl (by intro z;cases z),bO (λu x r=>?_) p⟩;obtain⟨a,rfl,ha⟩:=r;exact⟨a,U,ne ha (by intro z;cases z)⟩
def ac3(A:aE):Sp:=λvs H Q _=>∃(v:V) (D:dn) (s:Net),vs=[v]/\ bq A H v D/\ dF s D/\ ∀H',aa H H'->Q (.bl (Vanetc.draws s)) H'
theorem ac4(T:Txt K mg A):Gd P w K mg base 4 A.D_ A.LR ["points"] (ac3 A):=by
 refine T.XB.go (N:=["points","clusters","edge"]) ?_;rintro aC A' outer s H vs Q E hr nd ⟨v,D,s,rfl,hv,d,q⟩;refine⟨_,(af (aN 1 nd (qh hr (acA T) T.Y0 T.We (aj (dw T.c6 (ao (pv 0))))))
  (af (eZ PassesOwn.never U (eE (aP hr (acI T) T.Wu (aj (pv 0)))) (cx 2 nd) (ag (a9 (ij (dC (bN hr (Px T) T.kg T.Nw (pv 1) (aY (cW (pv 2) ak) (cW (pv 2) ak))))) (ag (aB iP)) bt)))
  (ag (aB (vN (aP hr (acP T) T.Wv (aY (pv 0) (pv 1))) (rA (lq cj (dO hr (acF T) T.kg T.Ws (pv 1)) ak))))))),?_⟩
 obtain⟨a,vs,rfl,S,pp⟩:=id hv;have uN:=d.bd;have f7:vs.length=(aQ s).length:=by rw[ck pp,d.arr.ln]
 have jW:=RN d.good;have Hc:=Js d.good;have iW:=Rx (s:=s) U jW Hc;refine⟨_,U,_,_,_,_,_,U,S.obj,T.aF,T.ki,U,a.l0,_,U, .inl (ab.of (S.get 0 U U)),?_⟩;intro c dx hc A5 kT;have s1:aa H (upd (upd H dx (.own c)) c (.ins A.kf dx [])):=c5 (aa.new A5) hc;refine⟨c,dx,(aQ s).length,by rw[f7];rfl,ae,by omega,λH2 k2 ac5=>⟨U,?_⟩⟩;have s2:aa H H2:=λb o e=>k2 _ _ (s1 _ _ e) (bS e hc);have Gy:=bq.mono _ _ _ _ s2 hv;refine⟨_,U, .ref a.p,D,s,U,Gy,d,λv' H3 s3 hes oQ=>?_⟩;have ji:=s2.trans s3;have PQ:CL A H3 c (List.range (aQ s).length):=by obtain⟨dx,la,h1,h2⟩:=ac5;exact⟨dx,la,s3 _ _ h1,s3 _ _ h2⟩
 obtain⟨Ar,la3,hc3,afl⟩:=id PQ;have ac8:=ac2 hc3 hes;obtain⟨fa,xs,rfl,fF,cg⟩:=ac8;obtain⟨nfc,PR⟩:=iT fF;have jh:=ck cg;have up:∀{H':Hp},K1 c H3 H'->aa (Wo (λb=>b=c) H3) (Wo (λb=>b=c) H'):=λk=>qd λb o e hb=>k b o e hb;have upH:∀{H':Hp},K1 c H3 H'->aa H H':=λk b o e=>k _ _ (ji _ _ e) (bS e hc);generalize Vanetc.edges s=es at cg jh oQ jW iW;refine⟨fa,U,⟨_,ab.of PR⟩,gL (xs:=xs) (λi σ' H'=>∃(u:Option V) (ns:List Nat),σ'=[some (.ref a.p),some (.ref c),u]/\ K1 c H3 H'/\ CL A H' c ns/\ ns.length=(aQ s).length/\ ni es (List.range (aQ s).length)=ni (es.drop i) ns)
  ⟨none,_,U,λb o e _=>e,PQ,by simp,by rw[kL]⟩ (λi σ' H' _ ⟨_,_,_,k,_⟩=>ab.of (k _ _ PR nfc)) ?_ ?_⟩
 ·rintro i x σ' H' hx ⟨u,ns,rfl,k,bD,j9,fI⟩
  obtain⟨e,he,g,rfl,hg⟩:=fB cg hx;have hi:=dm he;have ku:=bB _ _ _ _ (up k _ _ hg);have Hh:es.drop i=e::es.drop (i+1):=by have e':=(cP.mp he).2;rw[jP hi,e']
  rw[Hh]at fI;have hb:=jW e (bC he);obtain⟨dx6,la6,Hi,ac1⟩:=id bD;refine⟨_,U,c,_,_,U,Hi,U,_,U,_,_,_,_,U,U,bz.of ku,bT,_,U,_,_,_,_,U,U,bz.of ku,fO,c,ns,e.1,e.2,U,bD,by rw[j9];exact hb.1,by rw[j9];exact hb.2,by omega,?_⟩;have Hj:ni (e::es.drop (i+1)) ns=if together e.1 e.2 ns=true then none else ni (es.drop (i+1)) (lP e.1 e.2 ns):=rfl;rw[Hj]at fI;by_cases eY:together e.1 e.2 ns=true
  ·rw[if_pos eY]at fI
   rw[if_pos eY];rw[fI]at iW;refine⟨_,U,aJ ?_⟩;have:=q H' (upH k);rw[iW]at this;exact this
  ·rw[if_neg eY]at fI
   rw[if_neg eY];intro H7 k7 Hk;exact⟨_,U,aA ⟨_,_,U,λb o e hb=>k7 _ _ (k _ _ e hb) hb,Hk,by rw[Ce];exact j9,fI⟩⟩
 ·rintro σ' H' ⟨u,ns,rfl,k,bD,j9,fI⟩
  rw[jh,lG]at fI;have fI:ni es (List.range (aQ s).length)=some ns:=fI;rw[fI]at iW;have iW:Vanetc.draws s=drawn (pars s).length (pars s) ns:=iW;have sH:=upH k;have wH:aa H (Wo (λb=>b=c) H'):=λb o e=>by rw[cR (P:=λb=>b=c) (bS e hc)];exact sH _ _ e
  refine⟨_,U,_,U, .ref a.p,D,s,c,ns,U,bq.mono _ _ _ _ wH hv,d,bD,j9,λH8 k8 hf=>?_,λH8 xG k8 PU afm hf=>?_⟩
  ·refine⟨_,U,aA ?_⟩
   have:=q H8 (λb o e=>k8 _ _ (sH _ _ e) (bS e hc));rw[iW,hf]at this;exact this
  ·obtain⟨dx8,la8,hc8,afp⟩:=id PU
   refine⟨_,U,aJ ⟨_,U,c,_,_,U,hc8,U,c,xG,U,PU,by omega,λH9 s9=>⟨U,?_⟩⟩⟩;have:=q H9 (λb o e=>s9 _ _ (k8 _ _ (sH _ _ e) (bS e hc)));rw[iW,hf]at this;have e1:decide (nI (countParts xG)=V.int 1)=(countParts xG==1):=by have e2:(V.int 1:V)=nI 1:=rfl;rw[e2,show decide (nI (countParts xG)=nI 1)=decide (countParts xG=1)from jH _ _,iG];simp
   rw[<-e1]at this;exact this
def ah(x:P3):Net:={concl:=x.1,cuts:=x.2.1,to:=Vanetc.partnersOf (cJ x).length x.2.2}
theorem ac_(x:P3):Vanetc.allLeaves (ah x)=cJ x:=rfl
theorem xH(x:P3):(ah x).to.length=(cJ x).length:=tD _ _
theorem ac'(l:List Formula):(l.flatMap λA=>[A,dual A]).all inBounds=l.all inBounds:=by
 induction l with
 |nil=>rfl
 |cons a r ih=>rw[gE,ye,ih,iB,iB,iB,QW];cases inBounds a<;>simp
theorem ada(x:P3):((x.1++x.2.1.flatMap λA=>[A,dual A]).map Vaneta.atoms).foldl (·+·) 0=(cJ x).length:=(I_ (bE x)).symm
structure fJ(x:P3):Prop where
 ok:qx x
 nr:refusal (some x)=0
 ri:Vanetc.risingFirst x.2.2=true
theorem qE{x:P3}(h:refusal (some x)=0):(bE x).all inBounds=true/\ (cJ x).length<=120/\ paired (cJ x) x.2.2=true:=by
 unfold refusal at h;simp only at h;by_cases h1:(bE x).all inBounds=false
 ·rw[if_pos h1]at h;omega
 ·rw[if_neg h1]at h
  by_cases h2:120<(cJ x).length
  ·rw[if_pos h2]at h;omega
  ·rw[if_neg h2]at h
   by_cases h3:paired (cJ x) x.2.2=false
   ·rw[if_pos h3]at h;omega
   ·exact⟨by simpa using h1,by omega,by simpa using h3⟩
theorem adb{α:Type}{x:P3}(ok:qx x)(f:Net->Except Nat α):Vanetc.theNet x f=if refusal (some x)=0 then f (ah x)else .error (-(refusal (some x))).toNat:=by
 unfold Vanetc.theNet refusal;simp only;rw[ada];have e1:(x.1++x.2.1).all inBounds=(bE x).all inBounds:=by unfold bE;rw[ye,ye,ac']
 rw[e1];have hp:=Ie (cJ x) x.2.2 ok.lt;unfold Vanetc.after;cases h1:(bE x).all inBounds with
 |false=>rfl
 |true=>
  by_cases h2:120<(cJ x).length
  ·have:decide ((cJ x).length<=Vanetc.LEAVES)=false:=decide_eq_false (by unfold Vanetc.LEAVES;omega)
   rw[this];simp[h2]
  ·have:decide ((cJ x).length<=Vanetc.LEAVES)=true:=decide_eq_true (by unfold Vanetc.LEAVES;omega)
   rw[this];have e3:(Vanetc.oncePairs (cJ x).length x.2.2&&Vanetc.linked (Vanetc.allLeaves (ah x)) (ah x).to)=paired (cJ x) x.2.2:=by rw[ac_,hp];rfl
   have e4:(Vanetc.oncePairs (cJ x).length x.2.2&&Vanetc.linked (Vanetc.allLeaves {concl:=x.1,cuts:=x.2.1,to:=Vanetc.partnersOf (cJ x).length x.2.2}) (Vanetc.partnersOf (cJ x).length x.2.2))=paired (cJ x) x.2.2:=e3;rw[e4];cases h3:paired (cJ x) x.2.2 with
   |false=>simp[h2]
   |true=>simp[h2];rfl
theorem qU:∀A:Formula,multiplicative A=true->nodes A+1=2*Vaneta.atoms A
 | .atom _ _,_=>rfl
 | .tensor A B,h| .par A B,h=>by simp only[multiplicative,bb]at h;have:=qU A h.1;have:=qU B h.2;simp only[nodes,Vaneta.atoms];omega
 | .wth A B,h| .plus A B,h| .ofc A,h| .whn A,h=>by simp[multiplicative]at h
theorem A6:∀(l:List Formula),(∀F∈l,multiplicative F=true)->bf l<=2*(l.flatMap Vaneta.leaves).length
 |[],_=>bj _
 |F::r,h=>by have h1:=A6 r λG hG=>h G (by simp[hG]);have h2:=qU F (h F (by simp));rw[gE,bL,qS];simp only[bf];omega
theorem fJ.mul{x:P3}(o:fJ x):∀F∈bE x,multiplicative F=true:=λF hF=>((xh o.ok).1 F hF).1
theorem fJ.links{x:P3}(o:fJ x):(numsOf x.2.2).Nodup/\ (∀i∈numsOf x.2.2,i<(cJ x).length)/\ (numsOf x.2.2).length=(cJ x).length:=by
 obtain⟨_,_,h⟩:=qE o.nr;unfold paired at h;cases hp:jU (cJ x) [] x.2.2 with
 |none=>rw[hp]at h;cases h
 |some met=>rw[hp]at h;obtain⟨rfl,nd,lt,ff⟩:=(yo (cJ x) x.2.2 [] met o.ok.lt nY).mp hp;rw[mS]at nd h;exact⟨nd,lt,by simpa using h⟩
theorem fJ.good{x:P3}(o:fJ x):Good (ah x):=by refine⟨o.mul,?_⟩;obtain⟨_,_,h⟩:=qE o.nr;rw[Ie _ _ o.ok.lt,bb]at h;exact h.2
theorem fJ.sJ{x:P3}(o:fJ x):O9 x:=by
 obtain⟨h1,h2,h3⟩:=qE o.nr;refine⟨o.ok,λF hF=>?_,λz hz=>?_⟩
 ·have:=iC.mp h1 F hF
  unfold inBounds at this;simp only[bb,decide_eq_true_eq]at this;exact this.2.1
 ·have hl:=o.links.2.1
  exact⟨hl z.1 (gn.mpr ⟨z,hz,by simp⟩),hl z.2 (gn.mpr ⟨z,hz,by simp⟩)⟩
theorem fJ.kF{x:P3}(o:fJ x):dF (ah x) (eh x):=by
 have g:=o.good;obtain⟨nd,lt,ln⟩:=o.links;have eY:(ah x).to=Vanetc.partnersOf (ah x).to.length x.2.2:=by rw[xH];rfl
 have vx:=BO nd lt ln;have arr:=Ri g eY o.ok.lt nd (by rw[xH];exact lt) (by rw[xH];exact vx);have hlp:uK x=Vanetc.leafPoints (Vanetc.points (ah x)):=by rw[gZ];have:=yQ arr;exact this
 have e:(eh x).1=PM.arrOf (ah x) x.2.2:=by unfold eh PM.arrOf;rw[hlp];rfl
 obtain⟨a1,a2,a3,a4⟩:=RO g x.2.2;refine⟨g,by rw[e];exact arr,by rw[e];exact a1,by rw[e];exact a2,by rw[e];exact a3,by rw[e];exact a4,U,U,U,?_⟩;have e2:(aQ (ah x)).length=bf (bE x):=jV _ _ g.mul;rw[e2];have:=A6 (bE x) o.mul;have h2:=(qE o.nr).2.1;unfold cJ at h2;omega
theorem adf{t:Text}{x:P3}(h:partsOf t=some x):Vanetc.risingFirst x.2.2=true:=by
 unfold partsOf at h;split at h
 ·obtain⟨a,ha,h⟩:=cC.mp h
  obtain⟨b,hb,h⟩:=cC.mp h;split at h
  ·obtain⟨c,hc,e⟩:=eu.mp h
   subst e;unfold Vanetc.pairsOf at hc;split at hc
   ·cases hc;rfl
   ·obtain⟨l,_,h2⟩:=cC.mp hc
    split at h2
    ·rename_i hr
     have e:=ay h2;subst e;exact hr
    ·cases h2
  ·cases h
 ·cases h
theorem PV{t:Text}{x:P3}(hlen:t.length<=4000)(h:partsOf t=some x)(hr:refusal (some x)=0):fJ x:=⟨Aw hlen h,hr,adf h⟩
def x0:P3:=([.atom false [97], .atom true [97]],[],[(0,1)])
def t0:Text:=[97,44,32,126,97,32,59,32,59,32,48,45,49]
theorem PX:partsOf t0=some x0:=by decide+kernel
theorem PY:fJ x0:=PV (t:=t0) (by decide) PX (by decide+kernel)
theorem adg:ah x0=Vanetg.start:=by rfl
theorem PZ:∀(l m:List (Nat×Nat)),l.Pairwise (λa b=>a.1<b.1)->m.Pairwise (λa b=>a.1<b.1)->(∀z,z∈l↔z∈m)->l=m
 |[],[],_,_,_=>rfl
 |[],b::m,_,_,h=>absurd ((h b).mpr (by simp)) (by simp)
 |a::l,[],_,_,h=>absurd ((h a).mp (by simp)) (by simp)
 |a::l,b::m,hl,hm,h=>by
  obtain⟨h1,h2⟩:=mW.mp hl;obtain⟨h3,h4⟩:=mW.mp hm;have e:a=b:=by
   rcases a_.mp ((h a).mp (by simp))with e|e
   ·exact e
   ·rcases a_.mp ((h b).mpr (by simp))with e'|e'
    ·exact e'.symm
    ·have:=h3 a e;have:=h1 b e';omega
  subst e;rw[PZ l m h2 h4 λz=>?_];constructor
  ·intro hz
   rcases a_.mp ((h z).mp (by simp[hz]))with e|e
   ·subst e;exact absurd (h1 z hz) (by omega)
   ·exact e
  ·intro hz
   rcases a_.mp ((h z).mpr (by simp[hz]))with e|e
   ·subst e;exact absurd (h3 z hz) (by omega)
   ·exact e
theorem P0:∀(l:List (Nat×Nat)),Vanetc.risingFirst l=true->l.Pairwise (λa b=>a.1<b.1)
 |[],_=> .nil
 |[a],_=>mW.mpr ⟨λb hb=>by simp at hb, .nil⟩
 |a::b::r,h=>by
  have h:(decide (a.1<b.1)&&Vanetc.risingFirst (b::r))=true:=h;rw[bb,decide_eq_true_eq]at h;have ih:=P0 (b::r) h.2;refine mW.mpr ⟨λc hc=>?_,ih⟩;rcases a_.mp hc with rfl|hc
  ·exact h.1
  ·have:=(mW.mp ih).1 c hc;omega
theorem ym:∀(l:List Text),Vanetc.spaced l=df [32] l
 |[]=>rfl
 |[a]=>by simp[Vanetc.spaced,df]
 |a::b::r=>by have:=ym (b::r);show a++32::Vanetc.spaced (b::r)=_;rw[this];simp[df]
theorem adh{x:P3}(o:fJ x):((List.range (ah x).to.length).zip (ah x).to).filterMap (λz=>if z.1<z.2 then some z else none)=x.2.2:=by
 obtain⟨nd,lt,ln⟩:=o.links;have vx:=BO nd lt ln;have tl:=xH x;have hz:∀i j,(i,j)∈(List.range (ah x).to.length).zip (ah x).to↔(ah x).to[i]? =some j:=λi j=>by
  constructor
  ·intro h
   obtain⟨k,hk⟩:=jN.mp h;rw[uW]at hk;have Hl:=hk.1;have A0:=hk.2;simp only at Hl A0;have hl:=(cP.mp A0).1;rw[qK hl]at Hl;have e:=ay Hl;subst e;exact A0
  ·intro h
   have hl:=(cP.mp h).1;exact jN.mpr ⟨i,uW.mpr ⟨qK hl,h⟩⟩
 refine PZ _ _ ?_ (P0 _ o.ri) ?_
 ·refine List.Pairwise.filterMap (R:=λa b:Nat×Nat=>a.1<b.1) _ (λa b g_ z mi z2 sG=>?_) ?_
  ·have e1:z=a:=by
    split at mi
    ·exact(ay mi).symm
    ·cases mi
   have e2:z2=b:=by
    split at sG
    ·exact(ay sG).symm
    ·cases sG
   rw[e1,e2];exact g_
  ·generalize (ah x).to=to
   rw[xZ];intro i j hi hj iH;simp only[Br,List.getElem_range];exact iH
 ·rintro⟨i,j⟩
  rw[sX];constructor
  ·rintro⟨⟨a,b⟩,g_,h⟩
   split at h
   ·rename_i aU
    have e:=ay h;cases e;have ht:=(hz i j).mp g_;have hi:i<(cJ x).length:=by rw[<-tl];exact(cP.mp ht).1
    obtain⟨y,hy,hyi⟩:=BQ (vx i hi);have h_:=o.ok.lt y hy;obtain⟨p1,p2⟩:=vh (n:=(cJ x).length) nd hy h_ (lt y.2 (gn.mpr ⟨y,hy,by simp⟩));have ht:(Vanetc.partnersOf (cJ x).length x.2.2)[i]? =some j:=ht;rcases hyi with rfl|rfl
    ·rw[p1]at ht
     have e:=ay ht;rw[<-e];exact hy
    ·rw[p2]at ht
     have e:=ay ht;simp only at aU;omega
   ·cases h
  ·intro hy
   have h_:=o.ok.lt _ hy;obtain⟨p1,p2⟩:=vh (n:=(cJ x).length) nd hy h_ (lt j (gn.mpr ⟨(i,j),hy,by simp⟩));exact⟨(i,j),(hz i j).mpr p1,by rw[if_pos h_]⟩
theorem P5{x:P3}(o:fJ x):sk x=Vanetc.formOf (ah x):=by
 unfold sk Vanetc.formOf Vanetc.linksText;have e:(((List.range (ah x).to.length).zip (ah x).to).filterMap λx=>if x.1<x.2 then some (decimal x.1++45::decimal x.2)else none)=x.2.2.map fD:=by
  conv=>rhs;rw[<-adh o]
  rw[List.map_filterMap];congr 1;funext z;split<;>rfl
 rw[e,ym];simp[df,ah]
def xI(pv qv:V):List (Str×V):=[("parts",pv),("points",qv)]
structure pj(A:aE)(Z:Addr->Prop)(H:Hp)(h:Addr)(x:P3)(dx:Addr)(pv qv:V):Prop where
 obj:H h=some (.ins A.ef dx (xI pv qv))
 parts:c7 A (Wo (aL Z h) H) pv x
 points:bq A (Wo (aL Z h) H) qv (eh x)
 ok:fJ x
 aH:Hid Z H
def fo(A:aE)(Z:Addr->Prop)(H:Hp)(h:Addr)(x:P3):Prop:=∃dx pv qv,pj A Z H h x dx pv qv
theorem pj.mono{A:aE}{Z:Addr->Prop}{H H':Hp}{h dx:Addr}{x:P3}{pv qv:V}(r:pj A Z H h x dx pv qv)(s:aa H H'):pj A Z H' h x dx pv qv:=⟨s _ _ r.obj,c7.mono _ _ _ _ (bV s) r.parts,bq.mono _ _ _ _ (bV s) r.points,r.ok,r.aH.mono s⟩
theorem pj.aQ{A:aE}{Z:Addr->Prop}{H:Hp}{h dx:Addr}{x:P3}{pv qv:V}(r:pj A Z H h x dx pv qv):bq A H qv (eh x):=bq.mono _ _ _ _ (bB _ _) r.points
theorem pj.Hm{A:aE}{Z:Addr->Prop}{H:Hp}{h dx:Addr}{x:P3}{pv qv:V}(r:pj A Z H h x dx pv qv):c7 A H pv x:=c7.mono _ _ _ _ (bB _ _) r.parts
def A7(a:Vanetg.Answer):List V:=(VanetgNeutral.encode a).map V.int
def jm(A:aE)(Z:Addr->Prop)(H:Hp)(h:Addr)(x:P3)(c:Vanetg.Call)(Q:VK):Prop:=∀x' l H',K1 h H H'->fo A Z H' h x'->ah x'=(Vanetg.step (ah x) c).1->H l=none->H' l=some (.lst (A7 (Vanetg.step (ah x) c).2))->Q (.ref l) H'
theorem mO{A:aE}{Z:Addr->Prop}{H:Hp}{h:Addr}{x:P3}{c:Vanetg.Call}{Q:VK}{ns:List Nat}(q:jm A Z H h x c Q)(hh:fo A Z H h x)(e:does (ah x) c= .ok (ah x,ns)):iV H Q (ns.map nI):=by
 intro l H' s hl dH;have es:Vanetg.step (ah x) c=(ah x, .told ns):=by unfold Vanetg.step;rw[e]
 obtain⟨dx,pv,qv,r⟩:=hh;refine q x l H' (λb o e _=>s b o e) ⟨dx,pv,qv,r.mono s⟩ (by rw[es]) hl ?_;rw[es,dH];show _=some (HO.lst ((ns.map Int.ofNat).map V.int));rw[jO];rfl
theorem kG{A:aE}{Z:Addr->Prop}{H:Hp}{h:Addr}{x:P3}{c:Vanetg.Call}{Q:VK}{n:Nat}(q:jm A Z H h x c Q)(hh:fo A Z H h x)(e:does (ah x) c= .error n):iV H Q [V.int (-(n:Int))]:=by
 intro l H' s hl dH;have es:Vanetg.step (ah x) c=(ah x, .refused n):=by unfold Vanetg.step;rw[e]
 obtain⟨dx,pv,qv,r⟩:=hh;refine q x l H' (λb o e _=>s b o e) ⟨dx,pv,qv,r.mono s⟩ (by rw[es]) hl ?_;rw[es,dH];rfl
theorem P6{x:P3}(o:fJ x):sj x.1/\ sj x.2.1:=by have nb:=o.sJ.nb;refine⟨⟨o.ok.cl,λF hF=>⟨(o.ok.c F hF).1,(o.ok.c F hF).2.1,nb F (mT _ hF)⟩⟩,⟨o.ok.ul,λF hF=>⟨(o.ok.u F hF).1,(o.ok.u F hF).2.1,nb F (iY _ (gn.mpr ⟨F,hF,by simp⟩))⟩⟩⟩
theorem adk{x:P3}(o:fJ x):(sk x).length<=300100:=by
 obtain⟨h1,h2⟩:=P6 o;have a:=AE h1;have b:=AE h2;have hl:=(qE o.nr).2.1;have c:=OJ o.ok.ll λy hy=>by have:=o.sJ.lk y hy;omega
 unfold sk;simp only[df,bL,aX,kI];omega
def adl(A:aE):Sp:=λvs H Q _=>∃(Z:Addr->Prop) (h:Addr) (x:P3),vs=[.ref h]/\ fo A Z H h x/\ jm A Z H h x .form Q
theorem adm(T:Txt K mg A):Gd P w K mg base 6 A.Fi A.M6 ["self"] (adl A):=by
 refine T.YM.go (N:=["self","form"]) ?_;rintro aC A' outer s H vs Q E hr nd ⟨Z,h,x,rfl,hh,q⟩;refine⟨_,(af (aN 1 nd (aP hr (aaM T) T.WL (aj (ao (pv 0)))))
  (ag (aB (b_ gz (aS (aj (dw T.c6 (pv 1)))) (pv 1))))),?_⟩
 obtain⟨dx,pv,qv,r⟩:=id hh;have o:=r.ok;obtain⟨b1,b2⟩:=P6 o;have hl:=(qE o.nr).2.1;have qf:=mO q hh (c:= .form) (ns:=Vanetg.toldText (Vanetc.formOf (ah x))) U;rw[<-P5 o]at qf;have ln:=adk o;refine⟨_,U,h,_,_,_,_,U,r.obj,T.cy,T.wM,U,pv,x,U,r.Hm,b1,b2,o.ok.ll,λy hy=>by have:=o.sJ.lk y hy;omega,λl H1 s1 dY qo=>?_⟩;refine⟨_,U,l,_,U, .inl (ab.of qo),cu,λm hm=>?_⟩;have s2:=aa.new (o:= .lst [V.int (((sk x).map bI).length:Int)]) hm;refine⟨_,U,m,l,_,_,U,U,ae,s2 _ _ qo,fC (by simp;omega),λc hc=>?_⟩;refine qf c _ ((s1.trans s2).trans (aa.new hc)) (eU (s1.trans s2) hc) ?_;rw[ae];unfold Vanetg.toldText;rw[aI,da,jO];rfl
def adn(A:aE):Sp:=λvs H Q _=>∃(Z:Addr->Prop) (h:Addr) (x:P3),vs=[.ref h]/\ fo A Z H h x/\ jm A Z H h x .size Q
theorem ado(T:Txt K mg A):Gd P w K mg base 2 A.Fj A.M7 ["self"] (adn A):=by
 refine T.YN.go (N:=["self"]) ?_;rintro aC A' outer s H vs Q E hr nd ⟨Z,h,x,rfl,hh,q⟩;refine⟨_,(ag (aB (aS (fM (dw T.c6 (ao (ao (pv 0)))) (aY (ao (ao (pv 0))) (dO hr (GU T) T.aF T.FP (ao (pv 0)))))))),?_⟩;obtain⟨dx,pv,qv,r⟩:=id hh;have o:=r.ok;have d:=o.kF;have hv:=r.aQ;obtain⟨a,vs,rfl,S,pp⟩:=id hv;have f7:vs.length=(aQ (ah x)).length:=by rw[ck pp,d.arr.ln]
 have qf:=mO q hh (c:= .size) (ns:=[(aQ (ah x)).length,(junctions (ah x)).length,passages (ah x)]) U;refine⟨_,U,h,_,_,_,_,U,r.obj,T.cy,T.fk,U,a.p,_,_,_,_,U,S.obj,T.aF,T.ki,U,a.l0,_,U, .inl (ab.of (S.get 0 U U)),_,U,h,_,_,_,_,U,r.obj,T.cy,T.fk,U,a.p,_,_,_,_,U,S.obj,T.aF,T.qm,U,_,U,h,_,_,_,_,U,r.obj,T.cy,T.fk,U,a.p,_,_,U,S.obj,U, .ref a.p,eh x,ah x,U,hv,d,(by show 3<=sizeLine;decide),λl hl=>?_⟩;refine qf l _ (aa.new hl) hl ?_;rw[ae,f7,d.arr.jc];rfl
def uQ(s:Net)(p:Int)(zs:List Int):Int:=if below p (passages s)=false then-4 else if pd s zs=false then-1 else 0
def adp(A:aE):Sp:=λvs H Q _=>∃(Z:Addr->Prop) (h:Addr) (x:P3) (p:Int) (wa:Addr) (zs:List Int),vs=[.ref h, .int p, .ref wa]/\ fo A Z H h x/\ H wa=some (.lst (zs.map V.int))/\ zs.length<=10000/\ ∀H',aa H H'->Q (.int (uQ (ah x) p zs)) H'
theorem Hn(T:Txt K mg A):Gd P w K mg base 3 A.Fo A.M' ["self","passage","switching"] (adp A):=by
 refine T.YS.go (N:=["self","passage","switching"]) ?_;rintro aC A' outer s H vs Q E hr nd ⟨Z,h,x,p,wa,zs,rfl,hh,fG,hlen,q⟩;refine⟨_,(af (a9 (ij (dC (bN hr (GW T) T.aF T.FO (ao (pv 0)) (aj (pv 1))))) (ag (aB (aW T.ui))) bt)
  (af (a9 (ij (dC (bN hr (abl T) T.aF T.WU (ao (pv 0)) (aj (pv 2))))) (ag (aB (aW T.Wc))) bt)
  (ag (aB ak)))),?_⟩
 obtain⟨dx,pv,qv,r⟩:=id hh;have d:=r.ok.kF;have hv:=r.aQ;obtain⟨a,vs,rfl,S,pp⟩:=id hv;unfold uQ at q;refine⟨_,U,h,_,_,_,_,U,r.obj,T.cy,T.fk,U,a.p,_,_,U,S.obj,U,_,U, .ref a.p,eh x,ah x,p,U,hv,d,_,U,?_⟩;cases h1:below p (passages (ah x))with
 |false=>rw[if_pos h1]at q;exact aJ (q _ (aa.refl _))
 |true=>
  rw[if_neg (by rw[h1];simp)]at q;refine aA ⟨_,U,h,_,_,_,_,U,r.obj,T.cy,T.fk,U,a.p,_,_,U,S.obj,U,_,U, .ref a.p,eh x,ah x,wa,zs,U,hv,d,fG,hlen,λH1 s1=>⟨_,U,?_⟩⟩;have q:=q H1 s1;cases h2:pd (ah x) zs with
  |false=>rw[if_pos h2]at q;exact aJ q
  |true=>rw[if_neg (by rw[h2];simp)]at q;exact aA q
theorem Ho{s:Net}{zs:List Int}(h:pd s zs=true):zs.map V.int=(zs.map λz=>z==1).map dy/\ (zs.map λz=>z==1).length=(junctions s).length:=by unfold pd at h;rw[bb]at h;refine⟨?_,by rw[aI];simpa using h.1⟩;rw[jO];refine sS λz hz=>?_;have:=iC.mp h.2 z hz;simp only[qI,beq_iff_eq]at this;rcases this with rfl|rfl<;>rfl
theorem qG{p:Int}{n:Nat}(h:below p n=true):∃k:Nat,p=(k:Int)/\ k<n:=by unfold below at h;simp only[bb,decide_eq_true_eq]at h;exact⟨p.toNat,by omega,by omega⟩
theorem Hr{s:Net}{p:Int}{zs:List Int}{f:List Bool->Vanetg.Out}:(uQ s p zs<0/\ ∃n:Nat,uQ s p zs= -(n:Int)/\ Vanetg.after (below p (passages s)) 4 (Vanetg.theSwitching s zs f)= .error n)\/
  (uQ s p zs=0/\ below p (passages s)=true/\ pd s zs=true/\ Vanetg.after (below p (passages s)) 4 (Vanetg.theSwitching s zs f)=f (zs.map λz=>z==1)):=by
 have e:Vanetg.theSwitching s zs f=Vanetg.after (pd s zs) 1 (f (zs.map λz=>z==1)):=rfl;rw[e];unfold uQ Vanetg.after;cases h1:below p (passages s)with
 |false=>exact .inl ⟨by rw[if_pos U];decide,4,U,U⟩
 |true=>
  cases h2:pd s zs with
  |false=>exact .inl ⟨by decide,1,U,U⟩
  |true=>exact .inr ⟨U,U,U,U⟩
def adq(A:aE):Sp:=λvs H Q _=>∃(Z:Addr->Prop) (h:Addr) (x:P3) (p:Int) (wa:Addr) (zs:List Int),vs=[.ref h, .int p, .ref wa]/\ fo A Z H h x/\ H wa=some (.lst (zs.map V.int))/\ zs.length<=10000/\ jm A Z H h x (.next p zs) Q
theorem adt(T:Txt K mg A):Gd P w K mg base 5 A.Fl A.M8 ["self","passage","switching"] (adq A):=by
 refine T.YO.go (N:=["self","passage","switching","refusal"]) ?_;rintro aC A' outer s H vs Q E hr nd ⟨Z,h,x,p,wa,zs,rfl,hh,fG,hlen,q⟩;refine⟨_,(af (aN 3 nd (bN hr (Hn T) T.cy T.FU (pv 0) (aY (pv 1) (pv 2))))
  (af (a9 (aR iq (pv 3) ak) (ag (aB (aS (aj (pv 3))))) bt)
  (ag (aB (aS (aj (bN hr (GZ T) T.aF T.FQ (ao (pv 0)) (aY (pv 1) (pv 2))))))))),?_⟩
 obtain⟨dx,pv,qv,r⟩:=id hh;have d:=r.ok.kF;refine⟨_,U,h,_,_,U,r.obj,U,_,U,_,U,Z,h,x,p,wa,zs,U,hh,fG,hlen,λH1 s1=>?_⟩;refine⟨_,U,_,_,U,U,_,U,?_⟩;rcases Hr (s:=ah x) (p:=p) (zs:=zs) (f:=λv=> .ok (ah x,[(Vanetg.behind (ah x) (withSwitches (ah x) v)).getD p.toNat 0]))with⟨gS,n,hn,hd⟩|⟨h0,hb,hs,hd⟩
 ·have qf:=kG q hh (n:=n) hd
  rw[decide_eq_true gS];refine aJ ⟨_,U,cu,λl hl=>qf l _ (s1.trans (aa.new hl)) (eU s1 hl) ?_⟩;rw[ae,hn]
 ·have qf:=mO q hh hd
  obtain⟨w1,w2⟩:=Ho hs;obtain⟨k,rfl,hk⟩:=qG hb;have hk:k<2*(aQ (ah x)).length:=hk;rw[iZ,Iy _ _ hk]at qf;have r1:=r.mono s1;have hv:=r1.aQ;obtain⟨a,vs,rfl,S,pp⟩:=id hv;rw[h0,decide_eq_false (by decide)];refine aA ⟨_,U,h,_,_,_,_,U,r1.obj,T.cy,T.fk,U,a.p,_,_,U,S.obj,U,_,U,_,U, .ref a.p,eh x,ah x,k,wa,_,U,hv,d,hk,by rw[<-w1];exact s1 _ _ fG,w2,cu,λl hl=>qf l _ (s1.trans (aa.new hl)) (eU s1 hl) ?_⟩;rw[ae];rfl
def adu(A:aE):Sp:=λvs H Q _=>∃(Z:Addr->Prop) (h:Addr) (x:P3) (p:Int) (wa:Addr) (zs:List Int),vs=[.ref h, .int p, .ref wa]/\ fo A Z H h x/\ H wa=some (.lst (zs.map V.int))/\ zs.length<=10000/\ jm A Z H h x (.trip p zs) Q
theorem adv(T:Txt K mg A):Gd P w K mg base 6 A.Fm A.M9 ["self","passage","switching"] (adu A):=by
 refine T.YQ.go (N:=["self","passage","switching","refusal"]) ?_;rintro aC A' outer s H vs Q E hr nd ⟨Z,h,x,p,wa,zs,rfl,hh,fG,hlen,q⟩;refine⟨_,(af (aN 3 nd (bN hr (Hn T) T.cy T.FU (pv 0) (aY (pv 1) (pv 2))))
  (af (a9 (aR iq (pv 3) ak) (ag (aB (aS (aj (pv 3))))) bt)
  (ag (aB (aS (aj (dw T.c6 (bN hr (AO T) T.aF T.Aa (ao (pv 0)) (aY (pv 1) (pv 2)))))))))),?_⟩
 obtain⟨dx,pv,qv,r⟩:=id hh;have d:=r.ok.kF;refine⟨_,U,h,_,_,U,r.obj,U,_,U,_,U,Z,h,x,p,wa,zs,U,hh,fG,hlen,λH1 s1=>?_⟩;refine⟨_,U,_,_,U,U,_,U,?_⟩;rcases Hr (s:=ah x) (p:=p) (zs:=zs) (f:=λv=> .ok (ah x,[(Vanetg.trip (ah x) v p.toNat).length]))with⟨gS,n,hn,hd⟩|⟨h0,hb,hs,hd⟩
 ·have qf:=kG q hh (n:=n) hd
  rw[decide_eq_true gS];refine aJ ⟨_,U,cu,λl hl=>qf l _ (s1.trans (aa.new hl)) (eU s1 hl) ?_⟩;rw[ae,hn]
 ·have qf:=mO q hh hd
  obtain⟨w1,w2⟩:=Ho hs;obtain⟨k,rfl,hk⟩:=qG hb;have hk:k<2*(aQ (ah x)).length:=hk;rw[iZ]at qf;have r1:=r.mono s1;have hv:=r1.aQ;obtain⟨a,vs,rfl,S,pp⟩:=id hv;rw[h0,decide_eq_false (by decide)];refine aA ⟨_,U,h,_,_,_,_,U,r1.obj,T.cy,T.fk,U,a.p,_,_,U,S.obj,U,_,U,_,U, .ref a.p,eh x,ah x,k,wa,_,U,hv,d,hk,by rw[<-w1];exact s1 _ _ fG,w2,λt H2 s2 _ ht=>?_⟩;refine⟨t,_,U, .inl (ab.of ht),cu,λl hl=>qf l _ ((s1.trans s2).trans (aa.new hl)) (eU (s1.trans s2) hl) ?_⟩;rw[ae,aI];rfl
def adw(A:aE):Sp:=λvs H Q _=>∃(Z:Addr->Prop) (h:Addr) (x:P3) (wa:Addr) (zs:List Int),vs=[.ref h, .ref wa]/\ fo A Z H h x/\ H wa=some (.lst (zs.map V.int))/\ zs.length<=10000/\ jm A Z H h x (.path zs) Q
theorem P7(s:Net):below 0 (passages s)= !(Vanetc.points s).isEmpty:=by
 unfold below passages;cases h:Vanetc.points s with
 |nil=>rfl
 |cons a r=>rw[decide_eq_true (Int.le_refl 0),mV];exact decide_eq_true (by rw[aX];omega)
theorem ady{s:Net}{D:dn}(d:dF s D)(w:List Bool){p:Nat}(hp:p<2*(aQ s).length):(Vanetg.trip s w p).length<=500:=by obtain⟨k,k1,k2,k3,k4,k5⟩:=B1 d.good w hp;have:=d.bd;rw[k5];have k2:k<=2*(aQ s).length:=k2;simp;omega
theorem adz(T:Txt K mg A):Gd P w K mg base 6 A.Fn A.M_ ["self","switching"] (adw A):=by
 refine T.YR.go (N:=["self","switching","refusal","trip"]) ?_;rintro aC A' outer s H vs Q E hr nd ⟨Z,h,x,wa,zs,rfl,hh,fG,hlen,q⟩;refine⟨_,(af (aN 2 nd (bN hr (Hn T) T.cy T.FU (pv 0) (aY ak (pv 1))))
  (af (a9 (aR iq (pv 2) ak) (ag (aB (aS (aj (pv 2))))) bt)
  (af (aN 3 nd (bN hr (AO T) T.aF T.Aa (ao (pv 0)) (aY ak (pv 1))))
  (ag (aB (b_ gz (aS (aj (dw T.c6 (pv 3)))) (pv 3))))))),?_⟩
 obtain⟨dx,pv,qv,r⟩:=id hh;have d:=r.ok.kF;refine⟨_,U,h,_,_,U,r.obj,U,_,U,Z,h,x,0,wa,zs,U,hh,fG,hlen,λH1 s1=>?_⟩;refine⟨_,U,_,_,U,U,_,U,?_⟩;have hc:=Hr (s:=ah x) (p:=0) (zs:=zs) (f:=λv=> .ok (ah x,(Vanetg.trip (ah x) v 0).length::Vanetg.trip (ah x) v 0));have c8:does (ah x) (.path zs)=Vanetg.after (below 0 (passages (ah x))) 4 (Vanetg.theSwitching (ah x) zs λv=> .ok (ah x,(Vanetg.trip (ah x) v 0).length::Vanetg.trip (ah x) v 0)):=by rw[P7];rfl
 rcases hc with⟨gS,n,hn,hd⟩|⟨h0,hb,hs,hd⟩
 ·have qf:=kG q hh (n:=n) (c8.trans hd)
  rw[decide_eq_true gS];refine aJ ⟨_,U,cu,λl hl=>qf l _ (s1.trans (aa.new hl)) (eU s1 hl) ?_⟩;rw[ae,hn]
 ·have qf:=mO q hh (c8.trans hd)
  obtain⟨w1,w2⟩:=Ho hs;obtain⟨k,Dt,hk⟩:=qG hb;have ek:k=0:=by omega
  subst ek;have hk:0<2*(aQ (ah x)).length:=hk;have r1:=r.mono s1;have hv:=r1.aQ;obtain⟨a,vs,rfl,S,pp⟩:=id hv;have Aq:=ady d (zs.map λz=>z==1) hk;rw[h0,decide_eq_false (by decide)];refine aA ⟨_,U,h,_,_,_,_,U,r1.obj,T.cy,T.fk,U,a.p,_,_,U,S.obj,U,_,U, .ref a.p,eh x,ah x,0,wa,_,U,hv,d,hk,by rw[<-w1];exact s1 _ _ fG,w2,λt H2 s2 _ ht=>?_⟩;have bQ:=s1.trans s2;refine⟨_,U,t,_,U, .inl (ab.of ht),cu,λm hm=>?_⟩;have s3:=aa.new (o:= .lst [V.int (((Vanetg.trip (ah x) (zs.map λz=>z==1) 0).map nI).length:Int)]) hm;refine⟨_,U,m,t,_,_,U,U,ae,s3 _ _ ht,fC (by simp;omega),λc hc=>?_⟩;refine qf c _ ((bQ.trans s3).trans (aa.new hc)) (eU (bQ.trans s3) hc) ?_;rw[ae,aI];rfl
def adA(A:aE):Sp:=λvs H Q _=>∃(Z:Addr->Prop) (h:Addr) (x:P3),vs=[.ref h]/\ fo A Z H h x/\ jm A Z H h x .test Q
theorem adB(T:Txt K mg A):Gd P w K mg base 8 A.Fp A.Na ["self"] (adA A):=by
 refine T.YT.go (N:=["self"]) ?_;rintro aC A' outer s H vs Q E hr nd ⟨Z,h,x,rfl,hh,q⟩;refine⟨_,(af (a9 (aR rJ (ao (ao (pv 0))) (aW T.Nm)) (ag (aB (aS (aj (aW T.Nn))))) bt)
  (ag (aB (aS (aj (kW (dC (aP hr (abK T) T.W3 (aj (ao (pv 0))))) ak ak)))))),?_⟩
 obtain⟨dx,pv,qv,r⟩:=id hh;have d:=r.ok.kF;have hv:=r.aQ;obtain⟨a,vs,rfl,S,pp⟩:=id hv;refine⟨_,U,h,_,_,_,_,U,r.obj,T.cy,T.fk,U,a.p,_,_,_,_,U,S.obj,T.aF,T.qm,U,_,_,U,U,_,U,?_⟩;rw[d.arr.jc];have c8:does (ah x) .test=if(junctions (ah x)).length<=Vanetg.MOST then .ok (ah x,[Vanetg.one (allLong (ah x))])else .error 7:=rfl;by_cases hj:(junctions (ah x)).length<=8
 ·rw[if_pos (show(junctions (ah x)).length<=Vanetg.MOST from hj)]at c8
  have qf:=mO q hh c8;rw[show decide ((8:Int)<((junctions (ah x)).length:Int))=false from decide_eq_false (by omega)];refine aA ⟨_,U,h,_,_,_,_,U,r.obj,T.cy,T.fk,U, .ref a.p,eh x,ah x,U,hv,d,hj,λH1 s1=>⟨_,U,?_⟩⟩;cases eg:allLong (ah x)with
  |true=>rw[eg]at qf;exact aJ ⟨cu,λl hl=>qf l _ (s1.trans (aa.new hl)) (eU s1 hl) ae⟩
  |false=>rw[eg]at qf;exact aA ⟨cu,λl hl=>qf l _ (s1.trans (aa.new hl)) (eU s1 hl) ae⟩
 ·rw[if_neg (show¬(junctions (ah x)).length<=Vanetg.MOST from hj)]at c8
  have qf:=kG q hh c8;rw[show decide ((8:Int)<((junctions (ah x)).length:Int))=true from decide_eq_true (by omega)];exact aJ ⟨cu,λl hl=>qf l _ (aa.new hl) hl ae⟩
def adC(A:aE):Sp:=λvs H Q _=>∃(Z:Addr->Prop) (h:Addr) (x:P3),vs=[.ref h]/\ fo A Z H h x/\ jm A Z H h x .draw Q
theorem adD(T:Txt K mg A):Gd P w K mg base 5 A.Fv A.Ng ["self"] (adC A):=by
 refine T.YY.go (N:=["self"]) ?_;rintro aC A' outer s H vs Q E hr nd ⟨Z,h,x,rfl,hh,q⟩;refine⟨_,(ag (aB (aS (aj (kW (dC (aP hr (ac4 T) T.Wt (aj (ao (pv 0))))) ak ak))))),?_⟩;obtain⟨dx,pv,qv,r⟩:=id hh;have d:=r.ok.kF;have hv:=r.aQ;have qf:=mO q hh (c:= .draw) (ns:=[Vanetg.one (Vanetc.draws (ah x))]) U;refine⟨_,U,h,_,_,_,_,U,r.obj,T.cy,T.fk,U,qv,eh x,ah x,U,hv,d,λH1 s1=>⟨_,U,?_⟩⟩;cases eg:Vanetc.draws (ah x)with
 |true=>rw[eg]at qf;exact aJ ⟨cu,λl hl=>qf l _ (s1.trans (aa.new hl)) (eU s1 hl) ae⟩
 |false=>rw[eg]at qf;exact aA ⟨cu,λl hl=>qf l _ (s1.trans (aa.new hl)) (eU s1 hl) ae⟩
theorem P8(b:Bool):nI (Vanetg.one b)=dy b:=by cases b<;>rfl
theorem adE{s:Net}(g:Good s)(hp:0<(aQ s).length):Vanetg.firstShort s=(switchings (junctions s).length).find? (mL s):=by unfold Vanetg.firstShort;congr 1;funext w;rw[Ji g w hp,Bool.not_not];rfl
def adF(A:aE):Sp:=λvs H Q _=>∃(Z:Addr->Prop) (h:Addr) (x:P3),vs=[.ref h]/\ fo A Z H h x/\ jm A Z H h x .bad Q
theorem adG(T:Txt K mg A):Gd P w K mg base 7 A.Fq A.Nb ["self"] (adF A):=by
 refine T.YU.go (N:=["self","switching"]) ?_;rintro aC A' outer s H vs Q E hr nd ⟨Z,h,x,rfl,hh,q⟩;refine⟨_,(af (a9 (aR rJ (ao (ao (pv 0))) (aW T.Nm)) (ag (aB (aS (aj (aW T.Nn))))) bt)
  (af (a9 (ij (dC (bN hr (GW T) T.aF T.FO (ao (pv 0)) (aj ak)))) (ag (aB (aS (aj (aW T.ui))))) bt)
  (af (aN 1 nd (aP hr (Ph T) T.NN (aj (ao (pv 0)))))
  (af (a9 (aR rK (pv 1) i_) (ag (aB (aS (aj (aW T.ui))))) bt)
  (ag (aB (b_ gz (b_ gz (aS (aj (dw T.c6 (pv 1)))) (pv 1)) (aS (aj (dw T.c6 (bN hr (AO T) T.aF T.Aa (ao (pv 0)) (aY ak (pv 1))))))))))))),?_⟩
 obtain⟨dx,pv,qv,r⟩:=id hh;have d:=r.ok.kF;have hv:=r.aQ;obtain⟨a,vs,rfl,S,pp⟩:=id hv;refine⟨_,U,h,_,_,_,_,U,r.obj,T.cy,T.fk,U,a.p,_,_,_,_,U,S.obj,T.aF,T.qm,U,_,_,U,U,_,U,?_⟩;rw[d.arr.jc];have c8:does (ah x) .bad=if(junctions (ah x)).length<=Vanetg.MOST then Vanetg.after (!(Vanetc.points (ah x)).isEmpty) 4 (given (Vanetg.firstShort (ah x)) 4 λw=> .ok (ah x,w.length::(w.map Vanetg.one++[(Vanetg.trip (ah x) w 0).length])))else .error 7:=rfl;by_cases hj:(junctions (ah x)).length<=8
 ·rw[if_pos (show(junctions (ah x)).length<=Vanetg.MOST from hj),<-P7]at c8
  rw[show decide ((8:Int)<((junctions (ah x)).length:Int))=false from decide_eq_false (by omega)];refine aA ⟨_,U,h,_,_,_,_,U,r.obj,T.cy,T.fk,U,a.p,_,_,U,S.obj,U, .ref a.p,eh x,ah x,0,U,hv,d,_,U,?_⟩;cases hb:below 0 (passages (ah x))with
  |false=>rw[hb]at c8;have qf:=kG q hh (n:=4) c8;exact aJ ⟨cu,λl hl=>qf l _ (aa.new hl) hl ae⟩
  |true=>
   rw[hb]at c8;have hk:0<2*(aQ (ah x)).length:=by obtain⟨k,_,hk⟩:=qG hb;have hk:k<2*(aQ (ah x)).length:=hk;omega
   have hp:0<(aQ (ah x)).length:=by omega
   rw[adE d.good hp]at c8;refine aA ⟨_,U,h,_,_,_,_,U,r.obj,T.cy,T.fk,U, .ref a.p,eh x,ah x,U,hv,d,hp,hj,λv1 H1 s1 h1=>?_⟩;refine⟨_,U,U,_,U,?_⟩;have A8:=xg (R:=nQ) (λx h=>by obtain⟨g,rfl,_⟩:=h;intro z;cases z) h1;cases hf:(switchings (junctions (ah x)).length).find? (mL (ah x))with
   |none=>rw[hf]at c8 A8;have qf:=kG q hh (n:=4) c8;rw[A8];exact aJ ⟨cu,λl hl=>qf l _ (s1.trans (aa.new hl)) (eU s1 hl) ae⟩
   |some w=>rw[hf]at c8 A8 h1;obtain⟨g,rfl,hg⟩:=h1;have j_:=vD _ w (Bn hf);have qf:=mO q hh (ns:=w.length::(w.map Vanetg.one++[(Vanetg.trip (ah x) w 0).length])) c8;rw[A8];refine aA ⟨_,U,g,_,U, .inl (ab.of hg),cu,λm hm=>?_⟩;have s2:=aa.new (o:= .lst [V.int ((w.map dy).length:Int)]) hm;have kx:=s2 _ _ hg;refine⟨_,U,m,g,_,_,U,U,ae,kx,fC (by simp;omega),λm2 om=>?_⟩;have s3:=aa.new (o:= .lst ([V.int ((w.map dy).length:Int)]++w.map dy)) om;have s123:=(s1.trans s2).trans s3;have r3:=r.mono s123;have hv3:=bq.mono _ _ _ _ s123 hv;refine⟨_,U,h,_,_,_,_,U,r3.obj,T.cy,T.fk,U,a.p,_,_,U,(S.mono s123).obj,U,_,U, .ref a.p,eh x,ah x,0,g,w,U,hv3,d,hk,s3 _ _ kx,j_,λt H4 s4 _ ht=>?_⟩;refine⟨t,_,U, .inl (ab.of ht),cu,λm5 hm5=>?_⟩;have s5:=aa.new (o:= .lst [V.int (((Vanetg.trip (ah x) w 0).map nI).length:Int)]) hm5;refine⟨m2,m5,_,_,U,U,s5 _ _ (s4 _ _ ae),ae,fC (by simp;omega),λc hc=>?_⟩;have sA:=(s123.trans s4).trans s5;refine qf c _ (sA.trans (aa.new hc)) (eU sA hc) ?_;rw[ae,aI,aI,da,gD,jO];have e:(w.map (nI∘Vanetg.one))=w.map dy:=sS λb _=>P8 b;rw[e];rfl
 ·rw[if_neg (show¬(junctions (ah x)).length<=Vanetg.MOST from hj)]at c8
  have qf:=kG q hh c8;rw[show decide ((8:Int)<((junctions (ah x)).length:Int))=true from decide_eq_true (by omega)];exact aJ ⟨cu,λl hl=>qf l _ (aa.new hl) hl ae⟩
def adJ(A:aE):Sp:=λvs H Q _=>∃(Z:Addr->Prop) (h:Addr) (x:P3) (i:Int),vs=[.ref h, .int i]/\ fo A Z H h x/\ jm A Z H h x (.place i) Q
theorem adK(T:Txt K mg A):Gd P w K mg base 3 A.Fu A.Nf ["self","leaf"] (adJ A):=by
 refine T.YX.go (N:=["self","leaf","leaves"]) ?_;rintro aC A' outer s H vs Q E hr nd ⟨Z,h,x,i,rfl,hh,q⟩;refine⟨_,(af (aN 2 nd (dO hr (GB T) T.aF T.FL (ao (pv 0))))
  (af (a9 (ij (SS j6 iq ak (pv 1) (dw T.c6 (pv 2)))) (ag (aB (aS (aj (aW T.ui))))) bt)
  (ag (aB (aP hr (G2 T) T.FK (aY (ao (pv 0)) (aT (pv 2) (pv 1)))))))),?_⟩
 obtain⟨dx,pv,qv,r⟩:=id hh;have d:=r.ok.kF;have hv:=r.aQ;have uN:=d.bd;obtain⟨a,vs,rfl,S,pp⟩:=id hv;have f7:=d.arr.ln;refine⟨_,U,h,_,_,_,_,U,r.obj,T.cy,T.fk,U,a.p,_,_,U,S.obj,U,a.p,(eh x).1.nodes,U,bq.AY S pp,xp d,by rw[f7];show(aQ (ah x)).length<=100000;omega,λfb H1 s1 xB nR=>?_⟩;rw[yQ d.arr]at nR;have hl:(cv (ah x)).length=(ah x).to.length:=by rw[d.good.len,gZ]
 have c8:does (ah x) (.place i)=Vanetg.after (below i (ah x).to.length) 4 (.ok (ah x,(tellLeaf (formulas (ah x)) 0 i.toNat).1::toldPlace (tellLeaf (formulas (ah x)) 0 i.toNat).2)):=rfl;have bad:below i (ah x).to.length=false->iV H Q [V.int (-4)]:=λhb=>by rw[hb]at c8;exact kG q hh (n:=4) c8
 refine⟨_,U,_,_,U,U,_,U,b9 (λh0=>?_) (λh0=>?_)⟩
 ·have h0:0<=i:=of_decide_eq_true h0
  refine⟨_,U,fb,_,U, .inl (ab.of nR),_,_,U,U,_,U,?_⟩;rw[aI,hl];by_cases h1:i<((ah x).to.length:Int)
  ·rw[decide_eq_true h1]
   have hb:below i (ah x).to.length=true:=by unfold below;rw[decide_eq_true h0,decide_eq_true h1];rfl
   rw[hb]at c8;obtain⟨k,rfl,hk⟩:=qG hb;rw[iZ]at c8;have qf:=mO q hh c8;obtain⟨pt,fH⟩:∃pt,(cv (ah x))[k]? =some pt:=⟨_,br (by omega)⟩
   have r1:=r.mono s1;refine aA ⟨_,U,h,_,_,_,_,U,r1.obj,T.cy,T.fk,U,_,U,_,U,fb,_,_,_,U,U,ab.of nR,bH (kz fH), .ref a.p,eh x,ah x,pt,k,U,r1.aQ,d,hk,fH,λl H2 s2 dY fh=>qf l H2 (s1.trans s2) (eU s1 dY) fh⟩
  ·rw[decide_eq_false h1]
   have qf:=bad (by unfold below;rw[decide_eq_false h1,n_]);exact aJ ⟨cu,λl hl=>qf l _ (s1.trans (aa.new hl)) (eU s1 hl) ae⟩
 ·have h0:¬0<=i:=λc=>h0 (decide_eq_true c)
  have qf:=bad (by unfold below;rw[decide_eq_false h0,n8]);refine⟨_,U,?_⟩;exact aJ ⟨cu,λl hl=>qf l _ (s1.trans (aa.new hl)) (eU s1 hl) ae⟩
theorem P9{s:Net}{i:Nat}(h:i<Vanete.outer s):tellLeaf (formulas s) 0 i=tellLeaf s.concl 0 i:=by obtain⟨f,k,A,a⟩:=yL s.concl i h;rw[a.tell 0,show formulas s=s.concl++cM s.cuts from rfl,(a.left (b:=cM s.cuts)).tell 0]
theorem P_{s:Net}(g:Good s){c:Int}{zs:List Int}{n:Nat}(h:theLeaf s c zs=some n):n<Vanete.outer s/\ n<s.to.length:=by
 unfold theLeaf at h;split at h
 ·cases h
 ·obtain⟨q,hq,h2⟩:=cC.mp h
  unfold Vanetg.leafAt at h2;obtain⟨A,hA,h3⟩:=cC.mp h2;have h0:¬c<0:=by assumption
  have hc:((c.toNat:Nat):Int)=c:=by omega
  have h':theLeaf s ((c.toNat:Nat):Int) zs=some n:=by rw[hc];unfold theLeaf;rw[if_neg h0];exact h
  obtain⟨k,d,bT,_⟩:=Ck hA (g.mul A (mT _ (bC hA))) h';have h1:=bT.tM;refine⟨h1,?_⟩;have ht:=g.total;rw[q_]at ht;have:Vanete.outer s=Vanete.sum (s.concl.map Vaneta.atoms):=rfl;omega
theorem Qa{s:Net}{D:dn}(d:dF s D){i:Nat}(hi:i<s.to.length):((tellLeaf (formulas s) 0 i).1::toldPlace (tellLeaf (formulas s) 0 i).2).length<=10000:=by
 obtain⟨f,k,F,r,e,eD,h2,h3,h4,h5,h6⟩:=d.good.leaf hi;rw[eD.tell 0];have hk:k<(placesOf F).length:=by rw[places_len F (d.good.mul F (bC eD.fm))];exact eD.lt
 have h1:=xy F _ (Bp hk);have h7:nodes F<=(aQ s).length:=by have e:(aQ s).length=bf (formulas s):=jV _ _ d.good.mul;have:=Po (bC eD.fm);omega
 have:=d.bd;unfold toldPlace;simp only[aX];rw[nZ,br hk];show(placesOf F)[k].length+1+1<=10000;omega
theorem Qb(o:Option Nat)(z:Int):CV (mI o) (V.int z)=true:=by cases o<;>rfl
def adL(A:aE):Sp:=λvs H Q _=>∃(Z:Addr->Prop) (h:Addr) (x:P3) (c:Int) (pa:Addr) (zs:List Int),vs=[.ref h, .int c, .ref pa]/\ fo A Z H h x/\ H pa=some (.lst (zs.map V.int))/\ zs.length<=10000/\ jm A Z H h x (.token c zs) Q
theorem adM(T:Txt K mg A):Gd P w K mg base 4 A.Fs A.Nc ["self","conclusion","place"] (adL A):=by
 refine T.YV.go (N:=["self","conclusion","place","point","token"]) ?_;rintro aC A' outer s H vs Q E hr nd ⟨Z,h,x,c,pa,zs,rfl,hh,gR,hlen,q⟩;refine⟨_,(af (aN 3 nd (aP hr (Pl T) T.NL (fM (ao (pv 0)) (aY (pv 1) (pv 2)))))
  (af (a9 (aR cj (pv 3) (il ip ak)) (ag (aB (aS (aj (aW T.ui))))) bt)
  (af (aN 4 nd (qh hr (Pp T) T.NP T.Np (aj (pv 3))))
  (af (bF (bN hr (G4 T) T.dX T.FT (pv 4) (aj (ao (pv 0)))))
  (ag (aB (b_ gz (aP hr (G2 T) T.FK (aY (ao (pv 0)) (ao (pv 4)))) (aS (aj (ao (pv 4))))))))))),?_⟩
 obtain⟨dx,pv,qv,r⟩:=id hh;have d:=r.ok.kF;have hv:=r.aQ;have c8:does (ah x) (.token c zs)=given (theLeaf (ah x) c zs) 4 λn=> .ok (ah x,(tellLeaf (ah x).concl 0 (comesOut (ah x) n).1).1::(toldPlace (tellLeaf (ah x).concl 0 (comesOut (ah x) n).1).2++[(comesOut (ah x) n).2])):=rfl;refine⟨_,U,h,_,_,_,_,U,r.obj,T.cy,T.fk,U,_,U,_,U,qv,eh x,ah x,c,pa,zs,U,hv,d,gR,hlen,λH1 s1=>?_⟩;refine⟨_,U,_,U,Qb _ _,_,U,?_⟩;cases hl:theLeaf (ah x) c zs with
 |none=>rw[hl]at c8;have qf:=kG q hh (n:=4) c8;rw[show decide (mI ((none:Option Nat).bind λi=>(cv (ah x))[i]?)=V.int (-1))=true from decide_eq_true U];exact aJ ⟨cu,λl hl=>qf l _ (s1.trans (aa.new hl)) (eU s1 hl) ae⟩
 |some n=>
  rw[hl]at c8;obtain⟨ho,hn⟩:=P_ d.good hl;have gw:(cv (ah x)).length=(ah x).to.length:=by rw[d.good.len,gZ]
  obtain⟨p,hp⟩:∃p,(cv (ah x))[n]? =some p:=⟨_,br (by omega)⟩
  rw[cY,hp];have b8:(mI (some p)=V.int (-1))->False:=λc=>by have:=V.int.inj c;omega
  rw[decide_eq_false b8];refine aA ⟨_,U,?_⟩;have g:=d.good;have hco:=(g.out ho).2;have qf:=mO q hh (ns:=(tellLeaf (ah x).concl 0 (comesOut (ah x) n).1).1::(toldPlace (tellLeaf (ah x).concl 0 (comesOut (ah x) n).1).2++[(comesOut (ah x) n).2])) c8;rw[<-P9 hco.1]at qf;have bD:(comesOut (ah x) n).1<(ah x).to.length:=by have ht:=g.total;rw[q_]at ht;omega
  intro t dt ht A9 htd;have s2:aa H1 (upd (upd H1 dt (.own t)) t (.ins A.eQ dt [])):=c5 (aa.new A9) ht;refine⟨t,dt,p,U,ae,U,?_⟩;rw[jz];have s3:aa H1 (upd (upd H1 dt (.own t)) t (.ins A.eQ dt (kC p 0 false 0))):=c5 (aa.new A9) ht;have w3:aa H1 (Wo (λb=>b=t) (upd (upd H1 dt (.own t)) t (.ins A.eQ dt (kC p 0 false 0)))):=λb o e=>by rw[cR (P:=λb=>b=t) (bS e ht)];exact s3 _ _ e
  have r1:=r.mono s1;have r3:=r1.mono s3;refine⟨_,U,t,_,_,U,ae,U,_,U,h,_,_,_,_,U,r3.obj,T.cy,T.fk,U,t,dt,qv,eh x,ah x,p,n,0,false,0,U,ae,bq.mono _ _ _ _ w3 r1.aQ,d,ho,hp,λH4 p4 k4 hp4 uP=>?_⟩;have s4:aa H1 H4:=λb o e=>k4 _ _ (s3 _ _ e) (bS e ht);have r4:=r1.mono s4;refine⟨_,U,h,_,_,_,_,U,r4.obj,T.cy,T.fk,U,_,U,t,_,_,_,_,U,uP,T.dX,T.mr,U,qv,eh x,ah x,p4,(comesOut (ah x) n).1,U,r4.aQ,d,bD,hp4,λl H5 s5 dY A_=>?_⟩;refine⟨_,U,t,_,_,_,_,U,s5 _ _ uP,T.dX,T.FY,U,cu,λm hm=>?_⟩;have s6:=aa.new (o:= .lst [nI (0+(comesOut (ah x) n).2)]) hm;have sL:(((tellLeaf (formulas (ah x)) 0 (comesOut (ah x) n).1).1::toldPlace (tellLeaf (formulas (ah x)) 0 (comesOut (ah x) n).1).2)).length<=10000:=Qa d bD;refine⟨l,m,_,_,U,U,s6 _ _ A_,ae,fC (by simp only[bL,aI]at sL⊢;simp at sL⊢;omega),λc' i9=>?_⟩;have sA:=((s1.trans s4).trans s5).trans s6;refine qf c' _ (sA.trans (aa.new i9)) (eU sA i9) ?_;rw[ae,ft];simp
theorem adQ(o:Option P3):refusal o<=0:=by
 unfold refusal;split
 ·decide
 ·split
  ·decide
  ·split
   ·decide
   ·split<;>decide
theorem adR{α:Type}{R:Hp->V->α->Prop}(m:eP R){H H':Hp}{v:V}{o:Option α}(s:aa H H')(h:gP R H v o):gP R H' v o:=by
 cases o with
 |none=>exact h
 |some x=>exact m _ _ _ _ s h
theorem adS{α:Type}{t:Text}{f:Net->Except Nat α}(h:partsOf t=none):Vanete.theNet t f= .error 1:=by unfold Vanete.theNet;rw[h];rfl
theorem Qc{α:Type}{t:Text}{x:P3}{f:Net->Except Nat α}(hlen:t.length<=4000)(h:partsOf t=some x):Vanete.theNet t f=if refusal (some x)=0 then f (ah x)else .error (-(refusal (some x))).toNat:=by unfold Vanete.theNet;rw[h];exact adb (Aw hlen h) f
theorem Hs{α:Type}{t:Text}{f:Net->Except Nat α}(hlen:t.length<=4000)(h:refusal (partsOf t)<0):∃n:Nat,refusal (partsOf t)= -(n:Int)/\ Vanete.theNet t f= .error n:=by
 cases hp:partsOf t with
 |none=>exact⟨1,U,adS hp⟩
 |some x=>rw[hp]at h;refine⟨(-(refusal (some x))).toNat,by omega,?_⟩;rw[Qc hlen hp,if_neg (by omega)]
theorem Ht{α:Type}{t:Text}{f:Net->Except Nat α}(hlen:t.length<=4000)(h:¬refusal (partsOf t)<0):∃x,partsOf t=some x/\ fJ x/\ Vanete.theNet t f=f (ah x):=by
 have h0:refusal (partsOf t)=0:=by have:=adQ (partsOf t);omega
 cases hp:partsOf t with
 |none=>rw[hp]at h0;exact absurd h0 (by decide)
 |some x=>rw[hp]at h0;exact⟨x,U,PV hlen hp h0,by rw[Qc hlen hp,if_pos h0]⟩
theorem Ba{H:Hp}{h:Addr}{o:HO}(e:H h=some o):Hid (λb=>b=h) H:=λb hb z=>by rw[hb,e]at z;cases z
def adT(A:aE):Sp:=λvs H Q _=>∃(Z:Addr->Prop) (h:Addr) (x:P3) (v:V) (t:Text),vs=[.ref h,v]/\ fo A Z H h x/\ bG H v t/\ t.length<=4000/\ jm A Z H h x (.set t) Q
theorem adU(T:Txt K mg A):Gd P w K mg base 10 A.Fh A.M5 ["self","text"] (adT A):=by
 refine T.YL.go (N:=["self","text","parts","refusal"]) ?_;rintro aC A' outer s H vs Q E hr nd ⟨Z,h,x,v,t,rfl,hh,ht,hlen,q⟩;refine⟨_,(af (aN 2 nd (aP hr (Gr T) T.FJ (aj (pv 1))))
  (af (aN 3 nd (aP hr (OA T) T.NJ (aj (pv 2))))
  (af (a9 (aR iq (pv 3) ak) (ag (aB (aS (aj (pv 3))))) bt)
  (af (cn (pv 0) (pv 2))
  (af (cn (pv 0) (qh hr (GN T) T.FW T.FE (aj (pv 2))))
  (ag (aB (aS (aj (dw T.c6 (dO hr (Ov T) T.gN T.NF (pv 2)))))))))))),?_⟩
 obtain⟨dx,pv,qv,r⟩:=id hh;refine⟨_,U,(aL Z h),v,t,U,ht,hlen,r.aH.lh r.obj,λv1 H1 s1 h1=>?_⟩;refine⟨_,U,v1,partsOf t,U,adR c7.mono (bB _ _) h1,λy hy=>Aw hlen hy,λH2 s2=>?_⟩;have bQ:=s1.trans s2;refine⟨_,U,_,_,U,U,_,U,?_⟩;by_cases gS:refusal (partsOf t)<0
 ·obtain⟨n,hn,hd⟩:=Hs (f:=λo=> .ok (o,[o.to.length])) hlen gS
  have qf:=kG q hh (n:=n) hd;rw[decide_eq_true gS];refine aJ ⟨_,U,cu,λl hl=>qf l _ (bQ.trans (aa.new hl)) (eU bQ hl) ?_⟩;rw[ae,hn]
 ·obtain⟨x2,hp,o2,hd⟩:=Ht (f:=λo=> .ok (o,[o.to.length])) hlen gS
  rw[decide_eq_false gS];rw[hp]at h1;have h1:c7 A (Wo (aL Z h) H1) v1 x2:=h1;have r2:=r.mono bQ;refine aA ⟨_,U,_,U,h,_,_,_,U,r2.obj,T.cy,T.wM,(by show 2<1000;decide),?_⟩;have w2:∀o,Wo (aL Z h) (upd H2 h o)=Wo (aL Z h) H2:=λo=>dP (.inr U);have wy:=c7.mono _ _ _ _ (bV s2) h1;generalize oO:upd H2 h (.ins A.ef dx (bA "parts" v1 (xI pv qv)))=H3;have o3:H3 h=some (.ins A.ef dx (xI v1 qv)):=by rw[<-oO,ae];rfl
  have p3:c7 A (Wo (aL Z h) H3) v1 x2:=by rw[<-oO,w2];exact wy
  have k3:K1 h H H3:=λb o e hb=>by rw[<-oO,aD hb];exact bQ _ _ e
  refine⟨_,U,?_⟩;intro p pdx gQ xJ Qe;have nph:¬p=h:=λc=>by rw[c,o3]at gQ;cases gQ
  have z3:Hid Z H3:=by rw[<-oO];exact(r.aH.mono bQ).upd
  have nZp:¬(aL Z h) p:=by rintro(c|c);exact z3 p c gQ;exact nph c
  have s4:aa H3 (upd (upd H3 pdx (.own p)) p (.ins A.bM pdx [])):=c5 (aa.new xJ) gQ;refine⟨(aL Z h),p,pdx,v1,x2,U,ae,nZp,c7.mono _ _ _ _ (qe gQ s4) p3,o2.sJ,(z3.mono s4).lh (s4 _ _ o3),λH5 k5 h5=>⟨U,?_⟩⟩;have s5:aa H3 H5:=λb o e=>k5 _ _ (s4 _ _ e) (bS e gQ);refine⟨_,U,h,_,_,_,U,s5 _ _ o3,T.cy,T.fk,(by show 2<1000;decide),?_⟩;have w6:∀o,Wo (aL Z h) (upd H5 h o)=Wo (aL Z h) H5:=λo=>dP (.inr U);have p5:=c7.mono _ _ _ _ (bV s5) p3;generalize xK:upd H5 h (.ins A.ef dx (bA "points" (.ref p) (xI v1 qv)))=H6;have o6:H6 h=some (.ins A.ef dx (xI v1 (.ref p))):=by rw[<-xK,ae];rfl
  have r6:pj A Z H6 h x2 dx v1 (.ref p):=⟨o6,by rw[<-xK,w6];exact p5,by rw[<-xK,w6];exact h5,o2,by rw[<-xK];exact(z3.mono s5).upd⟩
  have k6:K1 h H H6:=λb o e hb=>by rw[<-xK,aD hb];exact s5 _ _ (k3 _ _ e hb)
  obtain⟨ap,adx,ac,au,al,rfl,sD,_⟩:=id r6.Hm;refine⟨_,U,ap,adx,_,U,sD,U,(aL Z h), .ref ap,x2,U,r6.parts,o2.ok,r6.aH.lh o6,λv7 H7 s7 h7=>?_⟩;obtain⟨la,lvs,rfl,jk,uD⟩:=h7;have gw:=ck uD;rw[Gw,aI]at gw;refine⟨la,_,U, .inl (ab.of (bB _ _ _ _ jk)),cu,λl hl=>?_⟩;have es:Vanetg.step (ah x) (.set t)=(ah x2, .told [(ah x2).to.length]):=by unfold Vanetg.step;have:does (ah x) (.set t)= .ok (ah x2,[(ah x2).to.length]):=hd;rw[this]
  have s8:=s7.trans (aa.new (o:= .lst [V.int (lvs.length:Int)]) hl);refine q x2 l _ (λb o e hb=>s8 _ _ (k6 _ _ e hb)) ⟨dx,_,_,r6.mono s8⟩ (by rw[es]) ?_ ?_
  ·cases e:H l with
   |none=>rfl
   |some o=>
    have nlh:l≠h:=λc=>by rw[c,s7 _ _ o6]at hl;cases hl
    rw[s7 _ _ (k6 _ _ e nlh)]at hl;cases hl
  ·rw[ae,es,gw,xH];rfl
theorem adV:codes "a, ~a ; ; 0-1"=t0.map bI:=by decide+kernel
def adW(A:aE):Sp:=λvs H Q _=>∃(h dx:Addr),vs=[.ref h]/\ H h=some (.ins A.ef dx [])/\ ∀H',K1 h H H'->fo A (λ_=>False) H' h x0->Q .aO H'
theorem adX(T:Txt K mg A):Gd P w K mg base 10 A.z0 A.M3 ["self"] (adW A):=by
 refine T.YJ.go (N:=["self"]) ?_;rintro aC A' outer s H vs Q E hr nd ⟨h,dx,rfl,hh,q⟩;refine⟨_,(af (cn (pv 0) (aP hr (Gr T) T.FJ (aj (aP hr (wN T) T.wI (aj (Vy T.VY))))))
  (ag (cn (pv 0) (qh hr (GN T) T.FW T.FE (aj (ao (pv 0))))))),?_⟩
 refine⟨_,U,by decide+kernel,λH1 ta s1 ta0 Qg=>?_⟩;rw[adV]at Qg;refine⟨(λb=>b=h), .ref ta,t0,U,⟨ta,U,Qg⟩,by decide,Ba (s1 _ _ hh),λv1 H2 s2 h2=>?_⟩;rw[PX]at h2;have h2:c7 A (Wo (λb=>b=h) H2) v1 x0:=h2;have bQ:=s1.trans s2;refine⟨_,U,h,_,_,_,U,bQ _ _ hh,T.cy,T.wM,(by show 0<1000;decide),?_⟩;have w2:∀o,Wo (λb=>b=h) (upd H2 h o)=Wo (λb=>b=h) H2:=λo=>dP U;generalize oO:upd H2 h (.ins A.ef dx (bA "parts" v1 []))=H3;have o3:H3 h=some (.ins A.ef dx [("parts",v1)]):=by rw[<-oO,ae];rfl
 have p3:c7 A (Wo (λb=>b=h) H3) v1 x0:=by rw[<-oO,w2];exact h2
 have k3:K1 h H H3:=λb o e hb=>by rw[<-oO,aD hb];exact bQ _ _ e
 refine⟨_,U,h,_,_,_,_,U,o3,T.cy,T.wM,U,?_⟩;intro p pdx gQ xJ Qe;have nph:¬p=h:=λc=>by rw[c,o3]at gQ;cases gQ
 have s4:aa H3 (upd (upd H3 pdx (.own p)) p (.ins A.bM pdx [])):=c5 (aa.new xJ) gQ;refine⟨(λb=>b=h),p,pdx,v1,x0,U,ae,nph,c7.mono _ _ _ _ (qe gQ s4) p3,PY.sJ,Ba (s4 _ _ o3),λH5 k5 h5=>⟨U,?_⟩⟩;have s5:aa H3 H5:=λb o e=>k5 _ _ (s4 _ _ e) (bS e gQ);refine⟨_,U,h,_,_,_,U,s5 _ _ o3,T.cy,T.fk,(by show 1<1000;decide),?_⟩;have w6:∀o,Wo (λb=>b=h) (upd H5 h o)=Wo (λb=>b=h) H5:=λo=>dP U;have p5:=c7.mono _ _ _ _ (bV s5) p3;have woF:∀Hx:Hp,Wo (aL (λ_=>False) h) Hx=Wo (λb=>b=h) Hx:=λHx=>by congr 1;funext b;exact propext ⟨λz=>z.elim False.elim id,λz=> .inr z⟩
 refine q _ (λb o e hb=>by rw[aD hb];exact s5 _ _ (k3 _ _ e hb)) ⟨dx,v1, .ref p,?_,by rw[woF,w6];exact p5,by rw[woF,w6];exact h5,PY,Hid.none _⟩;rw[ae];rfl
theorem enc_inj:∀(A B:Formula),multiplicative A=true->multiplicative B=true->∀r q:List Node,enc A++r=enc B++q->A=B/\ r=q
 | .atom n a,B,hA,hB,r,q,h=>by
  cases B with
  |atom m b=>have h:((if n=true then 1 else 0,a):Node)::r=(if m=true then 1 else 0,b)::q:=h;obtain⟨h1,h2⟩:=c_ h;obtain⟨h3,h4⟩:=js h1;refine⟨?_,h2⟩;rw[h4];cases n<;>cases m<;>simp at h3⊢
  |tensor C D=>have h:((if n=true then 1 else 0,a):Node)::r=(2,[])::((enc C++enc D)++q):=h;have:=(js (c_ h).1).1;cases n<;>simp at this
  |par C D=>have h:((if n=true then 1 else 0,a):Node)::r=(3,[])::((enc C++enc D)++q):=h;have:=(js (c_ h).1).1;cases n<;>simp at this
  |wth C D|plus C D|ofc C|whn C=>simp[multiplicative]at hB
 | .tensor C D,B,hA,hB,r,q,h=>by
  simp only[multiplicative,bb]at hA;cases B with
  |atom m b=>have h:((2,[]):Node)::((enc C++enc D)++r)=(if m=true then 1 else 0,b)::q:=h;have:=(js (c_ h).1).1;cases m<;>simp at this
  |tensor C' D'=>simp only[multiplicative,bb]at hB;have h:((2,[]):Node)::((enc C++enc D)++r)=(2,[])::((enc C'++enc D')++q):=h;have h:=(c_ h).2;rw[fK,fK]at h;obtain⟨e1,h⟩:=enc_inj C C' hA.1 hB.1 _ _ h;obtain⟨e2,h⟩:=enc_inj D D' hA.2 hB.2 _ _ h;rw[e1,e2];exact⟨U,h⟩
  |par C' D'=>have h:((2,[]):Node)::((enc C++enc D)++r)=(3,[])::((enc C'++enc D')++q):=h;have:=(js (c_ h).1).1;simp at this
  |wth C D|plus C D|ofc C|whn C=>simp[multiplicative]at hB
 | .par C D,B,hA,hB,r,q,h=>by
  simp only[multiplicative,bb]at hA;cases B with
  |atom m b=>have h:((3,[]):Node)::((enc C++enc D)++r)=(if m=true then 1 else 0,b)::q:=h;have:=(js (c_ h).1).1;cases m<;>simp at this
  |par C' D'=>simp only[multiplicative,bb]at hB;have h:((3,[]):Node)::((enc C++enc D)++r)=(3,[])::((enc C'++enc D')++q):=h;have h:=(c_ h).2;rw[fK,fK]at h;obtain⟨e1,h⟩:=enc_inj C C' hA.1 hB.1 _ _ h;obtain⟨e2,h⟩:=enc_inj D D' hA.2 hB.2 _ _ h;rw[e1,e2];exact⟨U,h⟩
  |tensor C' D'=>have h:((3,[]):Node)::((enc C++enc D)++r)=(2,[])::((enc C'++enc D')++q):=h;have:=(js (c_ h).1).1;simp at this
  |wth C D|plus C D|ofc C|whn C=>simp[multiplicative]at hB
 | .wth C D,_,hA,_,_,_,_| .plus C D,_,hA,_,_,_,_| .ofc C,_,hA,_,_,_,_| .whn C,_,hA,_,_,_,_=>by simp[multiplicative]at hA
theorem adY{A B:Formula}(hA:multiplicative A=true)(hB:multiplicative B=true):enc A=enc B↔A=B:=⟨λh=>(enc_inj A B hA hB [] [] (by rw[h])).1,λh=>by rw[h]⟩
def adZ(A:aE):Sp:=λvs H Q _=>∃(ba ca:Addr) (v0 v1:V) (D0 D1:dn) (s o:Net) (i j:Int),vs=[.ref ba, .ref ca]/\ H ba=some (.lst [v0,v1])/\ H ca=some (.lst [.int i, .int j])/\ bq A H v0 D0/\ bq A H v1 D1/\ dF s D0/\ dF o D1/\
 ∀H',aa H H'->Q (.bl (below i s.concl.length&&below j o.concl.length)) H'
theorem ad0(T:Txt K mg A):Gd P w K mg base 2 A.Fw A.Nh ["boards","conclusions"] (adZ A):=by
 refine T.YZ.go (N:=["boards","conclusions","points","number"]) ?_;rintro aC A' outer s H vs Q E hr nd ⟨ba,ca,v0,v1,D0,D1,s,o,i,j,rfl,mN,fc,fW,jj,d0,d1,q⟩;refine⟨_,(ag (aB (pY (Dg U) (by rfl) T.Fz DL (aj (mj U nd (K6 (by rfl) T.Nk (aY (pv 0) (pv 1))) (jF (own:=[("points",2),("number",3)]) (by show iS ["boards","conclusions","points","number"] (d5 (top 115)) _ _=true;decide+kernel)) (λ_ _ _ _ _=>(zS (K:=K) (n:=2) U U (kY (cx 2 nd) (kY (cx 3 nd) tV)))) (λ_ _ _ _ _=>oN) (λ_ _ _ _ _=>(bN hr (GV T) T.aF T.FN (pv 2) (aj (pv 3))))))))),?_⟩;obtain⟨a0,wZ,rfl,S0,pp0⟩:=id fW;obtain⟨a1,Ap,rfl,S1,pp1⟩:=id jj;refine⟨_,U,_,U,ba,ca,_,_,U,ab.of mN,ab.of fc,λL hL=>Lq (α:=Nat) (γ:=Nat) (λ_=>False) o_ o_.mono (λk=>[below i s.concl.length,below j o.concl.length][k]?) hL (Hid.none _) (by show 2<=100000;decide) (ab.of mN) (ab.of fc) U (λu v=>rfl) ?_ ?_⟩
 ·intro k' H2 x y hx hy s2 aH Ky Kn h1 h2
  refine oX ?_;match k',hx,hy with
  |0,hx,hy=>have ex:V.ref a0.p=x:=ay hx;have ey:V.int i=y:=ay hy;subst ex ey;exact⟨_,U,a0.p,_,_,U,s2 _ _ S0.obj,U,_,U, .ref a0.p,D0,s,i,U,bq.mono _ _ _ _ s2 fW,d0,h1 _ _ _ U (aa.refl _) U⟩
  |1,hx,hy=>have ex:V.ref a1.p=x:=ay hx;have ey:V.int j=y:=ay hy;subst ex ey;exact⟨_,U,a1.p,_,_,U,s2 _ _ S1.obj,U,_,U, .ref a1.p,D1,o,j,U,bq.mono _ _ _ _ s2 jj,d1,h1 _ _ _ U (aa.refl _) U⟩
  |k'+2,hx,hy=>simp at hx
 ·intro H2 acc s2 cH aH bh
  have ea:=Az bh;have ea:acc=[V.bl (below i s.concl.length),V.bl (below j o.concl.length)]:=ea;subst ea;refine⟨L,[below i s.concl.length,below j o.concl.length],U,ab.of cH,?_⟩;have:=q _ s2;rw[show[below i s.concl.length,below j o.concl.length].all id=(below i s.concl.length&&below j o.concl.length) by simp];exact this
theorem Qh{s:Net}{c:Int}{zs:List Int}{n:Nat}(h:theLeaf s c zs=some n):below c s.concl.length=true:=by
 unfold theLeaf at h;split at h
 ·cases h
 ·obtain⟨q,hq,h2⟩:=cC.mp h
  unfold Vanetg.leafAt at h2;obtain⟨A,hA,h3⟩:=cC.mp h2;have:=dm hA;unfold below;rw[decide_eq_true (by omega),decide_eq_true (by omega)];rfl
theorem ad1{s:Net}(g:Good s){c:Nat}{zs:List Int}{n:Nat}(h:theLeaf s (c:Int) zs=some n):∃k A,At s.concl n c k A:=by
 have h0:=h;unfold theLeaf at h;split at h
 ·cases h
 ·obtain⟨q,hq,h2⟩:=cC.mp h
  unfold Vanetg.leafAt at h2;obtain⟨A,hA,h3⟩:=cC.mp h2;rw[iZ]at hA;obtain⟨k,d,bT,_⟩:=Ck hA (g.mul A (mT _ (bC hA))) h0;exact⟨k,A,bT⟩
def nS(s o:Net)(i j c:Int)(zs:List Int):Vanetg.Out:=
 Vanetg.after (below i s.concl.length&&(below j o.concl.length&&(below c s.concl.length&&c !=i))) 4 (given (theLeaf s c zs) 4 λn=>
  given (s.concl[i.toNat]?) 4 λA=>Vanetg.after (o.concl[j.toNat]? ==some (dual A)) 8
   (.ok (s,Vanetg.one (Vanetg.play s o i.toNat j.toNat A n).1::(tellLeaf (if(Vanetg.play s o i.toNat j.toNat A n).1=true then o.concl else s.concl) 0 (Vanetg.play s o i.toNat j.toNat A n).2.1).1::(toldPlace (tellLeaf (if(Vanetg.play s o i.toNat j.toNat A n).1=true then o.concl else s.concl) 0 (Vanetg.play s o i.toNat j.toNat A n).2.1).2++[(Vanetg.play s o i.toNat j.toNat A n).2.2]))))
theorem Qi(s:Net)(i j c:Int)(t:Text)(zs:List Int):does s (.play i j c t zs)=Vanete.theNet t λo=>nS s o i j c zs:=rfl
theorem Hu{s o:Net}{i j c:Int}{zs:List Int}(h:theLeaf s c zs=none\/c=i\/(below i s.concl.length&&below j o.concl.length)=false):nS s o i j c zs= .error 4:=by
 unfold nS Vanetg.after;rcases h with h|h|h
 ·rw[h];split<;>rfl
 ·rw[show(c !=i)=false by simp[h],n_,n_,n_];rfl
 ·rw[<-Bool.and_assoc,h,n8];rfl
theorem ad2{s o:Net}{i j:Nat}{c:Int}{zs:List Int}{n:Nat}{F G:Formula}(h1:theLeaf s c zs=some n)(h2:c≠(i:Int))(hF:s.concl[i]? =some F)(hG:o.concl[j]? =some G):nS s o (i:Int) (j:Int) c zs=Vanetg.after (some G==some (dual F)) 8
   (.ok (s,Vanetg.one (Vanetg.play s o i j F n).1::(tellLeaf (if(Vanetg.play s o i j F n).1=true then o.concl else s.concl) 0 (Vanetg.play s o i j F n).2.1).1::(toldPlace (tellLeaf (if(Vanetg.play s o i j F n).1=true then o.concl else s.concl) 0 (Vanetg.play s o i j F n).2.1).2++[(Vanetg.play s o i j F n).2.2]))):=by
 unfold nS;have hi:=dm hF;have hj:=dm hG;have b1:below (i:Int) s.concl.length=true:=by unfold below;rw[decide_eq_true (by omega),decide_eq_true (by omega)];rfl
 have b2:below (j:Int) o.concl.length=true:=by unfold below;rw[decide_eq_true (by omega),decide_eq_true (by omega)];rfl
 rw[b1,b2,Qh h1,show(c !=(i:Int))=true by simpa using h2,h1,iZ,iZ,hF,hG];rfl
def ad3(A:aE):Sp:=λvs H Q _=>∃(Z:Addr->Prop) (h:Addr) (x:P3) (na:Addr) (i j c:Int) (v:V) (t:Text) (pa:Addr) (zs:List Int),vs=[.ref h, .ref na,v, .ref pa]/\ fo A Z H h x/\ H na=some (.lst [.int i, .int j, .int c])/\ bG H v t/\ t.length<=4000/\ H pa=some (.lst (zs.map V.int))/\ zs.length<=10000/\ jm A Z H h x (.play i j c t zs) Q
theorem ad4(T:Txt K mg A):Gd P w K mg base 10 A.Ft A.Nd ["self","numbers","text","place"] (ad3 A):=by
 refine T.YW.go (N:=["self","numbers","text","place","parts","refusal","boards","meeting","entered","point","token"]) ?_;rintro aC A' outer s H vs Q E hr nd ⟨Z,h,x,na,i,j,c,v,t,pa,zs,rfl,hh,mK,ht,hlen,gR,nD,q⟩;refine⟨_,(af (aN 4 nd (aP hr (Gr T) T.FJ (aj (pv 2))))
  (af (aN 5 nd (aP hr (OA T) T.NJ (aj (pv 4))))
  (af (a9 (aR iq (pv 5) ak) (ag (aB (aS (aj (pv 5))))) bt)
  (af (aN 6 nd (aS (aY (ao (pv 0)) (qh hr (GN T) T.FW T.FE (aj (pv 4))))))
  (af (aN 7 nd (oH oI (pv 1) C4 (je ak)))
  (af (aN 8 nd (aT (pv 1) ak))
  (af (aN 9 nd (aP hr (Pl T) T.NL (fM (ao (pv 0)) (aY (pv 8) (pv 3)))))
  (af (a9 (PW.pt (kU (aR cj (pv 9) (il ip ak)) (kU (aR cj (pv 8) (aT (pv 7) ak)) (oB (ij (dC (aP hr (ad0 T) T.Xg (aY (pv 6) (pv 7))))))))) (ag (aB (aS (aj (aW T.ui))))) bt)
  (af (a9 (aR (Di hr.units) (aT (ao (pv 4)) (aT (pv 7) ak)) (aP hr (wR T) T.wJ (aj (aT (ao (ao (pv 0))) (aT (pv 7) ak))))) (ag (aB (aS (aj (aW T.Wd))))) bt)
  (af (aN 10 nd (qh hr (Pp T) T.NP T.Np (aj (pv 9))))
  (af (bF (aP hr (ach T) T.W0 (fM (pv 10) (aY (pv 6) (pv 7)))))
  (ag (aB (b_ gz (b_ gz (aS (aj (ao (pv 10)))) (aP hr (G2 T) T.FK (aY (aT (pv 6) (ao (pv 10))) (ao (pv 10))))) (aS (aj (ao (pv 10)))))))))))))))))),?_⟩
 obtain⟨dx,pv,qv,r⟩:=id hh;have d:=r.ok.kF;have c8:=Qi (ah x) i j c t zs;refine⟨_,U,(λ_=>False),v,t,U,ht,hlen,Hid.none _,λv1 H1 s1 h1=>?_⟩;rw[mn]at h1;refine⟨_,U,v1,partsOf t,U,h1,λy hy=>Aw hlen hy,λH2 s2=>?_⟩;have bQ:=s1.trans s2;refine⟨_,U,_,_,U,U,_,U,?_⟩;by_cases gS:refusal (partsOf t)<0
 ·obtain⟨n,hn,hd⟩:=Hs (f:=λo=>nS (ah x) o i j c zs) hlen gS
  have qf:=kG q hh (n:=n) (c8.trans hd);rw[decide_eq_true gS];refine aJ ⟨_,U,cu,λl hl=>qf l _ (bQ.trans (aa.new hl)) (eU bQ hl) ?_⟩;rw[ae,hn]
 ·obtain⟨x2,hp,o2,hd⟩:=Ht (f:=λo=>nS (ah x) o i j c zs) hlen gS
  rw[decide_eq_false gS];rw[hp]at h1;have c8:=c8.trans hd;clear hd;have h1:c7 A H1 v1 x2:=h1;have h2:=c7.mono _ _ _ _ s2 h1;have r2:=r.mono bQ;have d2:=o2.kF;refine aA ⟨_,U,h,_,_,_,_,U,r2.obj,T.cy,T.fk,U,_,U,?_⟩;intro p pdx gQ xJ Qe;have s3:aa H2 (upd (upd H2 pdx (.own p)) p (.ins A.bM pdx [])):=c5 (aa.new xJ) gQ;have e3:aa H2 (Wo (aL (λ_=>False) p) (upd (upd H2 pdx (.own p)) p (.ins A.bM pdx []))):=λb o e=>by rw[cR (by rintro(z|z);exact z;exact bS e gQ z)];exact s3 _ _ e
  refine⟨(λ_=>False),p,pdx,v1,x2,U,ae,(λz=>z),c7.mono _ _ _ _ e3 h2,o2.sJ,Hid.none _,λH4 k4 h4=>⟨U,?_⟩⟩;rw[mn]at h4;have s4:aa H2 H4:=λb o e=>k4 _ _ (s3 _ _ e) (bS e gQ);refine⟨gm,λba mN=>?_⟩;have s5:=aa.new (o:= .lst [qv, .ref p]) mN;have Hv:=(bQ.trans s4).trans s5;have Qj:upd H4 ba (.lst [qv, .ref p]) ba=some (.lst [qv, .ref p]):=ae;have Qk:=bq.mono _ _ _ _ s5 h4;have AV:=c7.mono _ _ _ _ (s4.trans s5) h2;generalize upd H4 ba (.lst [qv, .ref p])=H5 at Hv Qj Qk AV;refine⟨_,U,_,U,na,_,U,ab.of (Hv _ _ mK),λma hma=>?_⟩;have ecut:fT [V.int i,V.int j,V.int c] none (some 2)=[V.int i,V.int j]:=rfl;rw[ecut];have s6:=aa.new (o:= .lst [V.int i,V.int j]) hma;have xM:=Hv.trans s6;have Ql:upd H5 ma (.lst [V.int i,V.int j]) ma=some (.lst [V.int i,V.int j]):=ae;have Qm:=s6 _ _ Qj;have Qn:=bq.mono _ _ _ _ s6 Qk;have Qo:=c7.mono _ _ _ _ s6 AV;generalize upd H5 ma (.lst [V.int i,V.int j])=H6 at xM Ql Qm Qn Qo;have r6:=r.mono xM;refine⟨_,U,na,_,_,_,U,U,ab.of (xM _ _ mK),at2,?_⟩;refine⟨_,U,h,_,_,_,_,U,r6.obj,T.cy,T.fk,U,_,U,_,U,qv,eh x,ah x,c,pa,zs,U,r6.aQ,d,xM _ _ gR,nD,λH7 s7=>?_⟩;have Bb:=xM.trans s7;have r7:=r.mono Bb;have Hw:=s7 _ _ Ql;have Qp:=s7 _ _ Qm;have Qq:=bq.mono _ _ _ _ s7 Qn;have hp7:=c7.mono _ _ _ _ s7 Qo;have bad:∀{H8:Hp},aa H H8->nS (ah x) (ah x2) i j c zs= .error 4->∀l,H8 l=none->Q (.ref l) (upd H8 l (.lst [V.int (-4)])):=λ{H8} s8 e l hl=>kG q hh (n:=4) (c8.trans e) l _ (s8.trans (aa.new hl)) (eU s8 hl) ae
  refine⟨_,U,_,U,Qb _ _,_,U,?_⟩;cases mJ:theLeaf (ah x) c zs with
  |none=>rw[show decide (mI ((none:Option Nat).bind λi=>(cv (ah x))[i]?)=V.int (-1))=true from decide_eq_true U];exact aJ (aJ ⟨cu,bad Bb (Hu (.inl mJ))⟩)
  |some n=>
   obtain⟨ho,hn⟩:=P_ d.good mJ;have gw:(cv (ah x)).length=(ah x).to.length:=by rw[d.good.len,gZ]
   obtain⟨pt,fH⟩:∃p,(cv (ah x))[n]? =some p:=⟨_,br (by omega)⟩
   rw[cY,fH];have b8:(mI (some pt)=V.int (-1))->False:=λc=>by have:=V.int.inj c;omega
   rw[decide_eq_false b8];refine aA ⟨_,U,_,U,ma,_,_,_,U,U,ab.of Hw,bT,U,_,U,?_⟩;have Hy:decide (V.int c=V.int i)=decide (c=i):=decide_eq_decide.mpr ⟨λz=>V.int.inj z,λz=>by rw[z]⟩;rw[Hy];by_cases qZ:c=i
   ·rw[decide_eq_true qZ]
    exact aJ (aJ ⟨cu,bad Bb (Hu (.inr (.inl qZ)))⟩)
   ·rw[decide_eq_false qZ]
    refine aA ⟨_,U,_,U,ba,ma,qv, .ref p,eh x,eh x2,ah x,ah x2,i,j,U,Qp,Hw,r7.aQ,Qq,d,d2,λH8 s8=>⟨_,U,?_⟩⟩;have Hz:=Bb.trans s8;cases eD:(below i (ah x).concl.length&&below j (ah x2).concl.length)with
    |false=>exact aJ ⟨cu,bad Hz (Hu (.inr (.inr eD)))⟩
    |true=>
     rw[bb]at eD;obtain⟨i',rfl,uO⟩:=qG eD.1;obtain⟨j',rfl,vA⟩:=qG eD.2;have uO:i'<x.1.length:=uO;have vA:j'<x2.1.length:=vA;obtain⟨F,hF⟩:∃F,x.1[i']? =some F:=⟨_,br uO⟩
     obtain⟨G,hG⟩:∃G,x2.1[j']? =some G:=⟨_,br vA⟩
     have iU:=ad2 (s:=ah x) (o:=ah x2) (i:=i') (j:=j') mJ qZ hF hG;have r8:=r.mono Hz;have HA:=s8 _ _ Hw;have hb8:=s8 _ _ Qp;have hv8:=bq.mono _ _ _ _ s8 Qq;obtain⟨ap,adx,ac,au,al,rfl,sD,GO,_,_⟩:=c7.mono _ _ _ _ s8 hp7;obtain⟨ca,cs,rfl,fc,eT⟩:=GO;obtain⟨gv,hgv,rG⟩:=oR eT hG;obtain⟨bp,bdx,bc,bu,bl,rfl,hbp,sF,_,_⟩:=r8.Hm;obtain⟨cb,ds,rfl,gY,hds⟩:=sF;obtain⟨fv,su,rF⟩:=oR hds hF;have mF:=rF.1;have mG:=rG.1;have okF:=((xh r.ok.ok).1 F (mT _ (bC hF)))
     refine aA ⟨_,U,ap,_,_,_,_,U,sD,T.gN,T.uk,U,_,U,ma,_,_,_,U,U,ab.of HA,fO,ca,_,_,_,U,U,ab.of fc,bH hgv,_,U,h,_,_,_,_,U,r8.obj,T.cy,T.wM,U,bp,_,_,_,_,U,hbp,T.gN,T.uk,U,_,U,ma,_,_,_,U,U,ab.of HA,bT,cb,_,_,_,U,U,ab.of gY,bH su,(λ_=>False),fv,enc F,U,by rw[mn];exact rF.2,jt F mF,by rw[bJ];omega,Hid.none _,λv9 H9 s9 h9=>?_⟩;rw[mn,<-jS]at h9;have hG9:=cS.mono bZ.mono _ _ _ _ s9 rG.2;have Bc:=Hz.trans s9;refine⟨_,_,qt hG9,qt h9,(qr _).shaped (by decide),(qr _).shaped (by decide),_,U,?_⟩;have eqn:PyData.eqv (nM (enc G)) (nM (enc (dual F)))=decide (enc G=enc (dual F)):=F6 _ _;rw[eqn];by_cases hd:G=dual F
     ·subst hd
      rw[decide_eq_true U];rw[show(some (dual F)==some (dual F))=true from beq_self_eq_true _]at iU;have qf:=mO q hh (c8.trans iU);have meet:Meet (ah x) (ah x2) i' j' F:=⟨d.good,d2.good,hF,hG⟩
      have gY:below c (ah x).concl.length=true:=Qh mJ;obtain⟨c',rfl,i9⟩:=qG gY;obtain⟨kk,AA,aeb⟩:=ad1 d.good mJ;have rg:¬ib (ah x) (ah x2) i' j' F false n:=λz=>by have e:=(meet.Je false aeb).mp z;have e:c'=i':=e;exact qZ (by rw[e])
      refine aA ⟨_,U,?_⟩;intro t dt sv A9 htd;refine⟨t,dt,pt,U,ae,U,?_⟩;rw[jz];have wj:aa H9 (upd (upd H9 dt (.own t)) t (.ins A.eQ dt (kC pt 0 false 0))):=c5 (aa.new A9) sv;have w10:aa H9 (Wo (λb=>b=t) (upd (upd H9 dt (.own t)) t (.ins A.eQ dt (kC pt 0 false 0)))):=λb o e=>by rw[cR (P:=λb=>b=t) (bS e sv)];exact wj _ _ e
      have r9:=r.mono Bc;have Qr:=s9 _ _ hb8;have hm9:=s9 _ _ HA;have Qs:=bq.mono _ _ _ _ s9 hv8;refine⟨_,U,_,U,_,U,t,dt,ba,ma,qv, .ref p,eh x,eh x2,ah x,ah x2,i',j',pt,n,F,U,ae,wj _ _ Qr,wj _ _ hm9,bq.mono _ _ _ _ w10 r9.aQ,bq.mono _ _ _ _ w10 Qs,d,d2,meet,ho,fH,rg,λH11 p11 c11 k11 Qt Qu HB=>?_⟩;have wk:aa H9 H11:=λb o e=>k11 _ _ (wj _ _ e) (bS e sv);generalize Vanetg.play (ah x) (ah x2) i' j' F n=X at qf Qt Qu HB;have aed:=Bc.trans wk;have aee:=wk _ _ Qr;obtain⟨vb,evb⟩:∃vb:Bool->V,vb=λb=>if b=true then .ref p else qv:=⟨_,U⟩
      obtain⟨Db,eDb⟩:∃Db:Bool->dn,Db=λb=>if b=true then eh x2 else eh x:=⟨_,U⟩
      have AU:∀b:Bool,gi [qv,V.ref p] (if b=true then 1 else 0)=some (vb b):=λb=>by rw[evb];cases b<;>rfl
      have uG:bq A H11 (vb X.1) (Db X.1):=by rw[evb,eDb];cases X.1;exact bq.mono _ _ _ _ wk r9.aQ;exact bq.mono _ _ _ _ wk Qs
      have fN:dF (c4 (ah x) (ah x2) X.1) (Db X.1):=by rw[eDb];cases X.1;exact d;exact d2
      have bD:X.2.1<(c4 (ah x) (ah x2) X.1).to.length:=by have hg:=fN.good.total;rw[q_]at hg;omega
      have etl:tellLeaf (if X.1=true then(ah x2).concl else(ah x).concl) 0 X.2.1=tellLeaf (formulas (c4 (ah x) (ah x2) X.1)) 0 X.2.1:=by rw[P9 Qu];cases X.1<;>rfl
      rw[etl]at qf;have sL:=Qa fN bD;refine⟨_,U,t,_,_,_,_,U,HB,T.dX,T.nF,U,cu,λl1 qo=>?_⟩;have bQ:=aa.new (o:= .lst [dy X.1]) qo;have HC:=bQ _ _ HB;refine⟨_,U,_,U,t,_,_,_,_,U,HC,T.dX,T.nF,U,ba,_,_,_,U,U,ab.of (bQ _ _ aee),AU X.1,_,U,t,_,_,_,_,U,HC,T.dX,T.mr,U,vb X.1,Db X.1,c4 (ah x) (ah x2) X.1,p11,X.2.1,U,bq.mono _ _ _ _ bQ uG,fN,bD,Qt,λl2 H13 cU afr fh=>?_⟩;refine⟨l1,l2,_,_,U,U,cU _ _ ae,fh,fC (by simp only[bL,aI,aX]at sL⊢;simp at sL⊢;omega),λl3 OS=>?_⟩;have mE:=aa.new (o:= .lst ([dy X.1]++((tellLeaf (formulas (c4 (ah x) (ah x2) X.1)) 0 X.2.1).1::toldPlace (tellLeaf (formulas (c4 (ah x) (ah x2) X.1)) 0 X.2.1).2).map nI)) OS;refine⟨_,U,t,_,_,_,_,U,mE _ _ (cU _ _ HC),T.dX,T.FZ,U,cu,λl4 sx=>?_⟩;have wQ:=aa.new (o:= .lst [nI X.2.2]) sx;refine⟨l3,l4,_,_,U,U,wQ _ _ ae,ae,fC (by simp only[bL,aI,aX]at sL⊢;simp at sL⊢;omega),λl5 A_=>?_⟩;have sA:=(((aed.trans bQ).trans cU).trans mE).trans wQ;refine qf l5 _ (sA.trans (aa.new A_)) (eU sA A_) ?_;rw[ae,<-P8];simp
     ·rw[decide_eq_false (λz=>hd ((adY mG (by rw[jT];exact mF)).mp z))]
      rw[show(some G==some (dual F))=false from beq_eq_false_iff_ne.mpr λz=>hd (ay z)]at iU;have qf:=kG q hh (n:=8) (c8.trans iU);exact aJ ⟨cu,λl hl=>qf l _ (Bc.trans (aa.new hl)) (eU Bc hl) ae⟩
theorem K1.seq{K:PySem.W.Frag}{c C dx:Addr}{fs:List (Str×V)}{H H':Hp}{a:Addr}{xs:List V}(k:K1 c H H')(hc:H c=some (.ins C dx fs))(h:ab K H a xs):ab K H' a xs:=by
 rcases h with(h|⟨o,h⟩)|h
 ·exact .inl (.inl (k _ _ h (ig h hc (by intro z;cases z))))
 ·exact .inl (.inr ⟨o,k _ _ h (ig h hc (by intro z;cases z))⟩)
 ·exact .inr h
def sM(H:Hp)(v:V)(r:List Int):Prop:=∃a,v= .ref a/\ H a=some (.lst (r.map V.int))
theorem sM.mono:eP sM:=λ_ _ _ _ s ⟨a,e,h⟩=>⟨a,e,s _ _ h⟩
def nU(k:Int)(e:Nat)(na ra:Addr):List (Str×V):=[("kind", .int k),("end",nI e),("numbers", .ref na),("rows", .ref ra)]
structure Qv(A:aE)(H:Hp)(c dx na ra:Addr)(rvs:List V)(e:Nat)(k:Int)(nums:List Int)(rows:List (List Int)):Prop where
 obj:H c=some (.ins A.cX dx (nU k e na ra))
 hn:H na=some (.lst (nums.map V.int))
 hr:H ra=some (.lst rvs)
 each:Paired (sM H) rvs rows
def NC:List V:=[.int 0, .int 0, .int 0, .int 1, .int 1, .int 0, .int 0, .int 0, .int 1, .int 3, .int 1, .int 0]
def RC:List V:=[.int 1, .int 0, .int 0, .int 1, .int 1, .int 1, .int 0, .int 0, .int 1, .int 2, .int 0, .int 0]
theorem aef{p:Int}{n k:Nat}(h:PyVanetg.shape p=some (n,k)):∃m:Nat,p=(m:Int)/\ NC[m]? =some (nI n)/\ RC[m]? =some (nI k)/\ n<=3/\ k<=2:=by
 unfold PyVanetg.shape at h
 repeat' split at h
 all_goals first
  |(obtain⟨rfl,rfl⟩:=js (ay h)
    first
    |exact⟨0,by assumption,U,U,by decide,by decide⟩
    |exact⟨1,by assumption,U,U,by decide,by decide⟩
    |exact⟨2,by assumption,U,U,by decide,by decide⟩
    |exact⟨3,by assumption,U,U,by decide,by decide⟩
    |exact⟨4,by assumption,U,U,by decide,by decide⟩
    |exact⟨5,by assumption,U,U,by decide,by decide⟩
    |exact⟨6,by assumption,U,U,by decide,by decide⟩
    |exact⟨7,by assumption,U,U,by decide,by decide⟩
    |exact⟨8,by assumption,U,U,by decide,by decide⟩
    |exact⟨9,by assumption,U,U,by decide,by decide⟩
    |exact⟨10,by assumption,U,U,by decide,by decide⟩
    |exact⟨11,by assumption,U,U,by decide,by decide⟩)
  |cases h
theorem Qw:∀(k:Nat) (r:List Int) (xs:List (List Int)) (t:List Int),PyFlat.rows k r=some (xs,t)->xs.length=k
 |0,r,xs,t,h=>by obtain⟨h1,_⟩:=js (ay h);rw[<-h1];rfl
 |k+1,r,xs,t,h=>by
  unfold PyFlat.rows at h;split at h
  ·cases h
  ·split at h
   ·cases h
   ·rename_i ys t' hr
    obtain⟨h1,_⟩:=js (ay h);rw[<-h1,aX,Qw k _ _ _ hr]
theorem aeg{k:Nat}{l:List Int}{e:Nat}{todo:List (List Int)}{rest:List Int}(h:PyFlat.rows (k+1) (l.drop e)=some (todo,rest)):∃(n:Nat) (xs:List (List Int)),l[e]? =some (n:Int)/\ e+1+n<=l.length/\ todo=(l.drop (e+1)).take n::xs/\ PyFlat.rows k (l.drop (e+1+n))=some (xs,rest):=by
 unfold PyFlat.rows at h;split at h
 ·cases h
 ·rename_i x s pk
  split at h
  ·cases h
  ·rename_i xs t sN
   obtain⟨h1,h2⟩:=js (ay h);subst h1 h2;cases hd:l.drop e with
   |nil=>rw[hd]at pk;cases pk
   |cons z r=>
    rw[hd]at pk;have pk:(if 0<=z/\ z.toNat<=r.length then some (r.take z.toNat,r.drop z.toNat)else none)=some (x,s):=pk;by_cases hz:0<=z/\ z.toNat<=r.length
    ·rw[if_pos hz]at pk
     obtain⟨h3,h4⟩:=js (ay pk);have he:e<l.length:=by
      rcases og e l.length with c|c
      ·exact c
      ·rw[List.drop_eq_nil_of_le c]at hd;cases hd
     have hd2:=hd;rw[jP he]at hd2;obtain⟨h5,h6⟩:=c_ hd2;have hl:r.length=l.length-(e+1):=by rw[<-h6,iE]
     refine⟨z.toNat,xs,?_,by omega,?_,?_⟩
     ·rw[br he,h5];congr 1;omega
     ·rw[h6,h3]
     ·rw[<-sN,<-h4,<-h6,sP]
    ·rw[if_neg hz]at pk;cases pk
theorem Qx{p:Int}{r:List Int}{c:List (List Int)}{t:List Int}(h:PyFlat.call PyVanetg.shape (p::r)=some (c,t)):∃n k xs,PyVanetg.shape p=some (n,k)/\ n<=r.length/\ PyFlat.rows k (r.drop n)=some (xs,t)/\ c=(p::r.take n)::xs:=by
 have h:(match PyVanetg.shape p with
  |none=>none
  |some (n,k)=>if r.length<n then none else match PyFlat.rows k (r.drop n)with
   |none=>none
   |some (xs,t)=>some ((p::r.take n)::xs,t))=some (c,t):=h
 cases hs:PyVanetg.shape p with
 |none=>rw[hs]at h;cases h
 |some nk=>
  obtain⟨n,k⟩:=nk;rw[hs]at h;simp only at h;by_cases hn:r.length<n
  ·rw[if_pos hn]at h;cases h
  ·rw[if_neg hn]at h
   cases hr:PyFlat.rows k (r.drop n)with
   |none=>rw[hr]at h;cases h
   |some xt=>obtain⟨xs,t'⟩:=xt;rw[hr]at h;obtain⟨h1,h2⟩:=js (ay h);subst h2;exact⟨n,k,xs,U,by omega,hr,h1.symm⟩
def aeh(A:aE)(K:PySem.W.Frag):Sp:=λvs H Q _=>∃(c dx la:Addr) (l:List Int) (at_:Nat) (k:Int) (nums:List Int) (rows:List (List Int)) (rest:List Int),vs=[.ref c, .ref la,nI at_]/\ H c=some (.ins A.cX dx [])/\ ab K H la (l.map V.int)/\ l.length<=100000/\ PyFlat.call PyVanetg.shape (l.drop at_)=some ((k::nums)::rows,rest)/\
 ∀H' na ra rvs e,K1 c H H'->Qv A H' c dx na ra rvs e k nums rows->l.drop e=rest->at_<e->e<=l.length->Q .aO H'
theorem aei(T:Txt K mg A):Gd P w K mg base 1 A.zZ A.M0 ["self","calls","at"] (aeh A K):=by
 refine T.YI.go (N:=["self","calls","at","row","begin"]) ?_;rintro aC A' outer s H vs Q E hr nd ⟨c,dx,la,l,at_,k,nums,rows,rest,rfl,hc,jk,hlen,hcall,q⟩;refine⟨_,(af (cn (pv 0) (aT (pv 1) (pv 2)))
  (af (cn (pv 0) (b_ jd (b_ jd (pv 2) ak) (cW (DO T.V_) (ao (pv 0)))))
  (af (cn (pv 0) (oH oI (pv 1) (je (b_ jd (pv 2) ak)) (je (ao (pv 0)))))
  (af (cn (pv 0) (aS bY))
  (ag (eZ PassesOwn.never U (J2 (by rfl) T.z6 (aj (cW (DO T.Wa) (ao (pv 0))))) (cx 3 nd) (af (aN 4 nd (b_ jd (ao (pv 0)) ak))
  (af (cn (pv 0) (b_ jd (pv 4) (aT (pv 1) (b_ rH (pv 4) ak))))
  (ag (bF (dD (ao (pv 0)) (oH oI (pv 1) (je (pv 4)) (je (ao (pv 0))))))))))))))),?_⟩
 have he:at_<l.length:=by
  rcases og at_ l.length with c|c
  ·exact c
  ·rw[List.drop_eq_nil_of_le c]at hcall;cases hcall
 rw[jP he]at hcall;obtain⟨n,m,xs,Qy,hrn,hrows,tS⟩:=Qx hcall;obtain⟨h3,h4⟩:=c_ tS;obtain⟨hk,hnums⟩:=c_ h3;rw[<-hk]at Qy;have hke:l[at_]? =some k:=by rw[br he,hk]
 subst h4;rw[sP]at hrows;rw[iE]at hrn;have DH:at_+1+n<=l.length:=by omega
 obtain⟨mm,rfl,hnc,hrc,hn3,om⟩:=aef Qy;refine⟨_,U,_,U,la,_,_,_,U,U,jk,bH (fY hke),_,U,c,_,_,_,U,hc,T.e_,T.Ae,(by show 0<1000;decide),?_⟩;have k1:∀{H':Hp},K1 c H H'->∀o,K1 c H (upd H' c o):=λk o b o' e hb=>by rw[aD hb];exact k _ _ e hb
 have kn:∀{H':Hp} {z:Addr} {o:HO},K1 c H H'->H' z=none->K1 c H (upd H' z o):=λk hz b o' e hb=>aa.new hz _ _ (k _ _ e hb);have o1:upd H c (.ins A.cX dx (bA "kind" (.int (mm:Int)) [])) c=some (.ins A.cX dx [("kind", .int (mm:Int))]):=by rw[ae];rfl
 have ka:=k1 (λb o e _=>e) (.ins A.cX dx (bA "kind" (.int (mm:Int)) []));generalize upd H c (.ins A.cX dx (bA "kind" (.int (mm:Int)) []))=H1 at o1 ka;refine⟨_,U,_,_,U,U,_,U,c,_,_,_,_,U,o1,T.e_,T.Ae,U,A.Fx,_,_,_,U,U,T.V' _,bH hnc,_,_,U,U,_,U,c,_,_,_,U,o1,T.e_,T.uo,(by show 1<1000;decide),?_⟩;have ee:V.int ((at_:Int)+1+(n:Int))=nI (at_+1+n):=by unfold nI;congr 1
 have o2:upd H1 c (.ins A.cX dx (bA "end" (V.int ((at_:Int)+1+(n:Int))) [("kind", .int (mm:Int))])) c=some (.ins A.cX dx [("kind", .int (mm:Int)),("end",nI (at_+1+n))]):=by rw[ae,ee];rfl
 have kb:=k1 ka (.ins A.cX dx (bA "end" (V.int ((at_:Int)+1+(n:Int))) [("kind", .int (mm:Int))]));generalize upd H1 c (.ins A.cX dx (bA "end" (V.int ((at_:Int)+1+(n:Int))) [("kind", .int (mm:Int))]))=H2 at o2 kb;refine⟨_,U,_,U,_,_,U,U,_,U,_,U,c,_,_,_,_,U,o2,T.e_,T.uo,U,_,U,la,_,U,kb.seq hc jk,λna mK=>?_⟩;have ecut:fT (l.map V.int) (some ((at_:Int)+1)) (some ((at_+1+n:Nat):Int))=nums.map V.int:=by
  have e1:((at_:Int)+1)=((at_+1:Nat):Int):=by omega
  rw[e1,uf _ (by omega) (by rw[aI];omega),hnums,<-oa,<-pH];congr 2;omega
 rw[show fT (l.map V.int) (some ((at_:Int)+1)) (some ((at_+1+n:Nat):Int))=nums.map V.int from ecut];have nac:na≠c:=λz=>by rw[z,o2]at mK;cases mK
 refine⟨_,U,c,_,_,_,U,aa.new mK _ _ o2,T.e_,T.uq,(by show 2<1000;decide),?_⟩;have o3:upd (upd H2 na (.lst (nums.map V.int))) c (.ins A.cX dx (bA "numbers" (.ref na) [("kind", .int (mm:Int)),("end",nI (at_+1+n))])) c=some (.ins A.cX dx [("kind", .int (mm:Int)),("end",nI (at_+1+n)),("numbers", .ref na)]):=by rw[ae];rfl
 have n3:upd (upd H2 na (.lst (nums.map V.int))) c (.ins A.cX dx (bA "numbers" (.ref na) [("kind", .int (mm:Int)),("end",nI (at_+1+n))])) na=some (.lst (nums.map V.int)):=by rw[aD nac,ae]
 have kc:=k1 (kn (o:= .lst (nums.map V.int)) kb mK) (.ins A.cX dx (bA "numbers" (.ref na) [("kind", .int (mm:Int)),("end",nI (at_+1+n))]));generalize upd (upd H2 na (.lst (nums.map V.int))) c (.ins A.cX dx (bA "numbers" (.ref na) [("kind", .int (mm:Int)),("end",nI (at_+1+n))]))=H3 at o3 n3 kc;refine⟨bj _,λra kD=>⟨_,U,c,_,_,_,U,aa.new kD _ _ o3,T.e_,T.oW,(by show 3<1000;decide),?_⟩⟩;have rac:ra≠c:=λz=>by rw[z,o3]at kD;cases kD
 have ran:ra≠na:=λz=>by rw[z,n3]at kD;cases kD
 have o4:upd (upd H3 ra (.lst [])) c (.ins A.cX dx (bA "rows" (.ref ra) [("kind", .int (mm:Int)),("end",nI (at_+1+n)),("numbers", .ref na)])) c=some (.ins A.cX dx (nU (mm:Int) (at_+1+n) na ra)):=by rw[ae];rfl
 have n4:upd (upd H3 ra (.lst [])) c (.ins A.cX dx (bA "rows" (.ref ra) [("kind", .int (mm:Int)),("end",nI (at_+1+n)),("numbers", .ref na)])) na=some (.lst (nums.map V.int)):=by rw[aD nac,aa.new kD _ _ n3]
 have r4:upd (upd H3 ra (.lst [])) c (.ins A.cX dx (bA "rows" (.ref ra) [("kind", .int (mm:Int)),("end",nI (at_+1+n)),("numbers", .ref na)])) ra=some (.lst []):=by rw[aD rac,ae]
 have kd:=k1 (kn (o:= .lst []) kc kD) (.ins A.cX dx (bA "rows" (.ref ra) [("kind", .int (mm:Int)),("end",nI (at_+1+n)),("numbers", .ref na)]));generalize upd (upd H3 ra (.lst [])) c (.ins A.cX dx (bA "rows" (.ref ra) [("kind", .int (mm:Int)),("end",nI (at_+1+n)),("numbers", .ref na)]))=H4 at o4 n4 r4 kd;have jh:=Qw _ _ _ _ hrows;refine⟨_,U,c,_,_,_,_,U,o4,T.e_,T.Ae,U,A.Fy,_,_,_,U,U,T.Wb _,bH hrc,(m:Int),U,by omega,by omega,?_⟩;rw[iZ];refine J5 (n:=m) (λi σ' H'=>∃(u v:Option V) (e:Nat) (rvs:List V) (done todo:List (List Int)),σ'=[some (.ref c),some (.ref la),some (nI at_),u,v]/\ K1 c H H'/\ H' c=some (.ins A.cX dx (nU (mm:Int) e na ra))/\ H' na=some (.lst (nums.map V.int))/\ H' ra=some (.lst rvs)/\ Paired (sM (Wo (λb=>b=ra\/b=c) H')) rvs done/\ rows=done++todo/\ done.length=i/\ PyFlat.rows (m-i) (l.drop e)=some (todo,rest)/\ at_<e/\ e<=l.length)
  ⟨none,none,at_+1+n,[],[],rows,U,kd,o4,n4,r4, .nil,U,U,hrows,by omega,DH⟩ ?_ ?_
 ·rintro i σ' H' hi ⟨u,v,e,rvs,done,todo,rfl,kk,oc,nc,rc,bh,lC,Qz,sN,HD,oQ⟩
  rw[show m-i=(m-(i+1))+1 by omega]at sN;obtain⟨nn,xs2,g1,g2,g3,g4⟩:=aeg sN;have aft:=ck bh;refine⟨_,U,c,_,_,_,_,U,oc,T.e_,T.uo,U,_,_,U,U,?_⟩;have xo:gi (l.map V.int) ((e:Int)+1-1)=some (.int (nn:Int)):=by rw[show(e:Int)+1-1=(e:Int) by omega];exact bH (fY g1)
  refine⟨_,U,_,U,_,U,_,_,U,U,la,_,_,_,U,U,kk.seq hc jk,xo,_,_,U,U,_,U,c,_,_,_,U,oc,T.e_,T.uo,(by show 4<1000;decide),?_⟩;have ee2:V.int ((e:Int)+1+(nn:Int))=nI (e+1+nn):=by unfold nI;congr 1
  have xN:upd H' c (.ins A.cX dx (bA "end" (V.int ((e:Int)+1+(nn:Int))) (nU (mm:Int) e na ra))) c=some (.ins A.cX dx (nU (mm:Int) (e+1+nn) na ra)):=by rw[ae,ee2];rfl
  have QA:upd H' c (.ins A.cX dx (bA "end" (V.int ((e:Int)+1+(nn:Int))) (nU (mm:Int) e na ra))) na=some (.lst (nums.map V.int)):=by rw[aD nac];exact nc
  have Bd:upd H' c (.ins A.cX dx (bA "end" (V.int ((e:Int)+1+(nn:Int))) (nU (mm:Int) e na ra))) ra=some (.lst rvs):=by rw[aD rac];exact rc
  have QB:Paired (sM (Wo (λb=>b=ra\/b=c) (upd H' c (.ins A.cX dx (bA "end" (V.int ((e:Int)+1+(nn:Int))) (nU (mm:Int) e na ra)))))) rvs done:=by rw[dP (P:=λb=>b=ra\/b=c) (.inr U)];exact bh
  have HE:=k1 kk (.ins A.cX dx (bA "end" (V.int ((e:Int)+1+(nn:Int))) (nU (mm:Int) e na ra)));generalize upd H' c (.ins A.cX dx (bA "end" (V.int ((e:Int)+1+(nn:Int))) (nU (mm:Int) e na ra)))=H5 at xN QA Bd QB HE;refine⟨_,U,c,_,_,_,_,U,xN,T.e_,T.oW,U, .inl ⟨U,_,ab.of Bd⟩,_,U,_,U,_,U,_,U,c,_,_,_,_,U,xN,T.e_,T.uo,U,_,U,la,_,U,HE.seq hc jk,λz hz=>?_⟩;have ecut2:fT (l.map V.int) (some ((e:Int)+1)) (some ((e+1+nn:Nat):Int))=((l.drop (e+1)).take nn).map V.int:=by
   have e1:((e:Int)+1)=((e+1:Nat):Int):=by omega
   rw[e1,uf _ (by omega) (by rw[aI];omega),<-oa,<-pH];congr 2;omega
  rw[show fT (l.map V.int) (some ((e:Int)+1)) (some ((e+1+nn:Nat):Int))=((l.drop (e+1)).take nn).map V.int from ecut2];have sz:=aa.new (o:= .lst (((l.drop (e+1)).take nn).map V.int)) hz;have nzr:¬(z=ra\/z=c):=by rintro(q|q);rw[q,Bd]at hz;cases hz;rw[q,xN]at hz;cases hz
  refine⟨ra,_,_,U,U,sz _ _ Bd,dk (by omega),_,_,e+1+nn,_,done++[(l.drop (e+1)).take nn],xs2,U,?_,?_,?_,ae,?_,by rw[lC,g3];simp,by simp[Qz],g4,by omega,g2⟩
  ·intro b o' e' hb
   by_cases QC:b=ra
   ·exfalso
    rw[QC]at e';have h0:=kc _ _ e' rac;rw[h0]at kD;cases kD
   ·rw[aD QC];exact sz _ _ (HE _ _ e' hb)
  ·rw[aD (Ne.symm rac)];exact sz _ _ xN
  ·rw[aD (Ne.symm ran)];exact sz _ _ QA
  ·rw[dP (P:=λb=>b=ra\/b=c) (.inl U)]
   refine ke (bO (λ_ _ r=>sM.mono _ _ _ _ (bV sz) r) QB) ⟨z,U,?_⟩;rw[cR (P:=λb=>b=ra\/b=c) nzr,ae]
 ·rintro σ' H' ⟨u,v,e,rvs,done,todo,rfl,kk,oc,nc,rc,bh,lC,Qz,sN,HD,oQ⟩
  rw[qN]at sN;obtain⟨e1,e2⟩:=js (ay (show some (([]:List (List Int)),l.drop e)=some (todo,rest)from sN));rw[<-e1,iD]at lC;subst lC;exact q H' na ra rvs e kk ⟨oc,nc,rc,bO (λ_ _ r=>sM.mono _ _ _ _ (bB _ _) r) bh⟩ e2 HD oQ
theorem QD:∀(l:List Formula),(∀F∈l,multiplicative F=true/\ nm (enc F))->((l.map form).map List.length).sum<=17*bf l
 |[],_=>bj _
 |F::r,h=>by have h1:=QD r λG hG=>h G (by simp[hG]);obtain⟨h2,h3⟩:=h F (by simp);have h4:=JN h2;have h5:=yY h3;rw[bJ]at h5;simp only[da,yc,bf];omega
theorem QE{l:List Formula}(hl:l.length<=20)(h:∀F∈l,multiplicative F=true/\ nm (enc F)):(Vaneta.sequentForm l).length<=60+17*bf l:=by rw[yl];have h1:=uu [44,32] (l.map form);have h2:=QD l h;rw[aI]at h1;have h1:(df [44,32] (l.map form)).length<=l.length*(2+1)+((l.map form).map List.length).sum:=h1;omega
theorem Be:∀(a b:List Formula),bf (a++b)=bf a+bf b
 |[],b=>by simp[bf]
 |F::r,b=>by simp only[lF,bf,Be r b];omega
theorem QF:∀(l:List Formula),bf l<=bf (l.flatMap λA=>[A,dual A])
 |[]=>aM _
 |F::r=>by have:=QF r;rw[gE,Be];simp only[bf];omega
theorem QG:∀(l:List (Nat×Nat)),(numsOf l).length=2*l.length
 |[]=>rfl
 |a::r=>by have:=QG r;unfold PM.numsOf at this⊢;rw[gE,bL,this];simp;omega
theorem aep{l:List (Nat×Nat)}(hl:l.length<=60)(h:∀y∈l,y.1<120/\ y.2<120):(df [32] (l.map fD)).length<=1000:=by
 have h1:=uu [32] (l.map fD);have h2:((l.map fD).map List.length).sum<=(l.map fD).length*7:=by refine cO (AB (b:=7) λx hx=>?_) (by rw[aI];exact aM _);obtain⟨t,ht,rfl⟩:=c9.mp hx;obtain⟨y,hy,rfl⟩:=c9.mp ht;have h1:=qz y.1 (h y hy).1;have h2:=qz y.2 (h y hy).2;unfold fD;simp;omega
 rw[aI]at h1 h2;have h1:(df [32] (l.map fD)).length<=l.length*(1+1)+((l.map fD).map List.length).sum:=h1;omega
theorem aeq{x:P3}(o:fJ x):(Vanetc.formOf (ah x)).length<=15000:=by
 rw[<-P5 o];have a:=QE o.ok.cl λF hF=>⟨(o.ok.c F hF).1,(o.ok.c F hF).2.1⟩
 have b:=QE o.ok.ul λF hF=>⟨(o.ok.u F hF).1,(o.ok.u F hF).2.1⟩
 have hn:=A6 (bE x) o.mul;have hl:=(qE o.nr).2.1;have e1:bf (bE x)=bf x.1+bf (x.2.1.flatMap λA=>[A,dual A]):=Be _ _;have e2:=QF x.2.1;have fh:((bE x).flatMap Vaneta.leaves).length<=120:=hl;have h60:x.2.2.length<=60:=by have:=o.links.2.2;rw[QG]at this;omega
 have c:=aep h60 λy hy=>by have:=o.sJ.lk y hy;omega
 unfold sk;simp only[df,bL,aX,kI];omega
def mP(b:Nat)(o:Vanetg.Out):Prop:=∀x,o= .ok x->x.2.length<=b
theorem mQ{b:Nat}{s:Net}{l:List Nat}(h:l.length<=b):mP b (.ok (s,l)):=λx e=>by have:=Except.ok.inj e;rw[<-this];exact h
theorem pw{b n:Nat}:mP b (.error n):=λx e=>by cases e
theorem qH{b n:Nat}{c:Bool}{o:Vanetg.Out}(h:mP b o):mP b (Vanetg.after c n o):=by
 unfold Vanetg.after;split
 ·exact h
 ·exact pw
theorem Bf{α:Type}{b n:Nat}{a:Option α}{f:α->Vanetg.Out}(h:∀y,a=some y->mP b (f y)):mP b (given a n f):=by
 unfold given;cases a with
 |none=>exact pw
 |some y=>exact h y U
theorem aes{b:Nat}{t:Text}{f:Net->Vanetg.Out}(h:∀o,mP b (f o)):mP b (Vanete.theNet t f):=by
 unfold Vanete.theNet Vanete.given;split
 ·unfold Vanetc.theNet Vanetc.after
  simp only;split
  ·split
   ·split
    ·exact h _
    ·exact pw
   ·exact pw
  ·exact pw
 ·exact pw
theorem QH(next:List Nat)(first:Nat):∀(f p:Nat),(Vanetg.tripFrom next first f p).length<=f
 |0,p=>aM _
 |f+1,p=>by
  unfold Vanetg.tripFrom;rw[aX];split
  ·simp
  ·have:=QH next first f (next.getD p 0);omega
theorem QI{α β:Type}(f g:α->β):∀l:List α,(l.flatMap λa=>[f a,g a]).length=2*l.length
 |[]=>rfl
 |a::r=>by rw[gE,bL,QI f g r];simp;omega
theorem B0(s:Net)(w:Vanetg.Switches):(Vanetg.behind s w).length=2*(aQ s).length:=by unfold Vanetg.behind;simp only;rw[QI,List.length_range]
theorem aet(s:Net)(w:List Bool)(p:Nat):(Vanetg.trip s w p).length<=2*(aQ s).length:=by unfold Vanetg.trip Vanetg.tripIn;have:=QH (Vanetg.behind s (withSwitches s w)) p (Vanetg.behind s (withSwitches s w)).length p;rw[B0]at this⊢;exact this
theorem xO:∀(fs:List Formula) (i n:Nat),(tellLeaf fs i n).2.length<=bf fs
 |[],i,n=>bj _
 |A::r,i,n=>by
  unfold tellLeaf;simp only[bf];split
  ·show((placesOf A).getD n []).length<=_
   rw[nZ];cases h:(placesOf A)[n]? with
   |none=>exact bj _
   |some p=>have:=xy A p (bC h);show p.length<=_;omega
  ·have:=xO r (i+1) (n-Vaneta.atoms A);omega
theorem fJ.all{x:P3}(o:fJ x):bf (bE x)<=240/\ bf (ah x).concl<=240:=by have hn:=A6 (bE x) o.mul;have hl:((bE x).flatMap Vaneta.leaves).length<=120:=(qE o.nr).2.1;have e1:bf (bE x)=bf x.1+bf (x.2.1.flatMap λA=>[A,dual A]):=Be _ _;have:bf (ah x).concl=bf x.1:=rfl;omega
theorem aeu{x:P3}(o:fJ x)(c:Vanetg.Call)(hc:∀i j k t zs,c= .play i j k t zs->t.length<=4000):mP 20000 (does (ah x) c):=by
 have uN:=o.kF.bd;obtain⟨a1,a2⟩:=o.all;cases c with
 |set t=>exact aes λo=>mQ (by simp)
 |form=>refine mQ ?_;have:=aeq o;unfold Vanetg.toldText;simp;omega
 |size=>exact mQ (by simp)
 |next p w|trip p w=>exact qH (qH (mQ (by simp)))
 |path w=>refine qH (qH (mQ ?_));have:=aet (ah x) (w.map λz=>z==1) 0;rw[aX];omega
 |test=>
  show mP 20000 (if _ then _ else _);split
  ·exact mQ (by simp)
  ·exact pw
 |bad=>
  show mP 20000 (if _ then _ else _);split
  ·rename_i hj
   refine qH (Bf λw hw=>mQ ?_);have hj:(junctions (ah x)).length<=8:=hj;have:=vD _ w (Bn hw);simp;omega
  ·exact pw
 |token i p=>refine Bf λn hn=>mQ ?_;have:=xO (ah x).concl 0 (comesOut (ah x) n).1;unfold toldPlace;simp;omega
 |play i j c t p=>
  have hlen:=hc i j c t p U;rw[Qi];by_cases gS:refusal (partsOf t)<0
  ·obtain⟨n,hn,hd⟩:=Hs (f:=λo=>nS (ah x) o i j c p) hlen gS
   rw[hd];exact pw
  ·obtain⟨x2,hp,o2,hd⟩:=Ht (f:=λo=>nS (ah x) o i j c p) hlen gS
   rw[hd];obtain⟨b1,b2⟩:=o2.all;refine qH (Bf λn hn=>Bf λA hA=>qH (mQ ?_));generalize Vanetg.play (ah x) (ah x2) i.toNat j.toNat A n=X;have hs:(tellLeaf (if X.1=true then(ah x2).concl else(ah x).concl) 0 X.2.1).2.length<=240:=by
    split
    ·have:=xO (ah x2).concl 0 X.2.1;omega
    ·have:=xO (ah x).concl 0 X.2.1;omega
   unfold toldPlace;simp only[aX,bL,kI];omega
 |place i=>refine qH (mQ ?_);have:=xO (formulas (ah x)) 0 i.toNat;have e:bf (formulas (ah x))=bf (bE x):=rfl;unfold toldPlace;simp only[aX];omega
 |draw=>exact mQ (by simp)
theorem aev{x:P3}(o:fJ x)(c:Vanetg.Call)(hc:∀i j k t zs,c= .play i j k t zs->t.length<=4000):(A7 (Vanetg.step (ah x) c).2).length<=20000:=by
 have h:=aeu o c hc;unfold A7 Vanetg.step;cases hd:does (ah x) c with
 |error n=>simp[VanetgNeutral.encode]
 |ok y=>have:=h y hd;simp only[VanetgNeutral.encode,aI];exact this
theorem aew{z:Int}(h:VanetgNeutral.natural z 8=true):bI (UInt8.ofNat z.toNat)=V.int z:=by unfold VanetgNeutral.natural at h;simp only[bb,decide_eq_true_eq]at h;obtain⟨h1,h2⟩:=h;have h2:z<256:=h2;unfold bI;congr 1;rw[UInt8.toNat_ofNat'];omega
theorem QJ{t:List Int}(h:t.all (λz=>VanetgNeutral.natural z 8)=true):VanetgNeutral.text? t=some (t.map λb=>UInt8.ofNat b.toNat)/\ (t.map λb=>UInt8.ofNat b.toNat).map bI=t.map V.int:=by
 constructor
 ·unfold VanetgNeutral.text? NeutralIO.bytes
  rw[if_pos];rw[iC]at h⊢;intro z hz;have:=h z hz;unfold VanetgNeutral.natural at this;simp only[bb,decide_eq_true_eq]at this⊢;have h2:z<256:=this.2;exact⟨this.1,by omega⟩
 ·rw[jO]
  refine sS λz hz=>?_;exact aew (iC.mp h z hz)
theorem Hy(a b:Int):decide (V.int a=V.int b)=decide (a=b):=decide_eq_decide.mpr ⟨λz=>V.int.inj z,λz=>by rw[z]⟩
inductive jo:Int->List Int->List (List Int)->Vanetg.Call->Prop
 |set {t:List Int} {b:Text}:b.map bI=t.map V.int->b.length<=4000->jo 0 [] [t] (.set b)
 |form:jo 1 [] [] .form
 |size:jo 2 [] [] .size
 |next {p:Int} {w:List Int}:w.length<=10000->jo 3 [p] [w] (.next p w)
 |trip {p:Int} {w:List Int}:w.length<=10000->jo 4 [p] [w] (.trip p w)
 |path {w:List Int}:w.length<=10000->jo 5 [] [w] (.path w)
 |test:jo 6 [] [] .test
 |bad:jo 7 [] [] .bad
 |token {i:Int} {p:List Int}:p.length<=10000->jo 8 [i] [p] (.token i p)
 |play {i j c:Int} {t p:List Int} {b:Text}:b.map bI=t.map V.int->b.length<=4000->p.length<=10000->jo 9 [i,j,c] [t,p] (.play i j c b p)
 |place {i:Int}:jo 10 [i] [] (.place i)
 |draw:jo 11 [] [] .draw
theorem aex{k:Int}{nums:List Int}{rows:List (List Int)}{c:Vanetg.Call}(h:jo k nums rows c):∀i j m t zs,c= .play i j m t zs->t.length<=4000:=by intro i j m t zs e;cases h<;>first|(cases e;assumption)|cases e
theorem aey{k:Int}{nums:List Int}{rows:List (List Int)}(h:VanetgNeutral.asked1 ((k::nums)::rows)=true):∃c,VanetgNeutral.callOf ((k::nums)::rows)=some c/\ jo k nums rows c:=by
 generalize bD:(k::nums)::rows=cl at h⊢;unfold VanetgNeutral.asked1 at h;split at h
 ·obtain⟨h1,rfl⟩:=c_ bD
  obtain⟨rfl,rfl⟩:=c_ h1;simp only[bb,decide_eq_true_eq]at h;obtain⟨e1,e2⟩:=QJ h.1;exact⟨_,by show(VanetgNeutral.text? _).map _=_;rw[e1];rfl, .set e2 (by rw[aI];exact h.2)⟩
 ·obtain⟨h1,rfl⟩:=c_ bD
  obtain⟨rfl,rfl⟩:=c_ h1;exact⟨_,U, .form⟩
 ·obtain⟨h1,rfl⟩:=c_ bD
  obtain⟨rfl,rfl⟩:=c_ h1;exact⟨_,U, .size⟩
 ·obtain⟨h1,rfl⟩:=c_ bD
  obtain⟨rfl,rfl⟩:=c_ h1;simp only[bb,decide_eq_true_eq]at h;exact⟨_,U, .next (by omega)⟩
 ·obtain⟨h1,rfl⟩:=c_ bD
  obtain⟨rfl,rfl⟩:=c_ h1;simp only[bb,decide_eq_true_eq]at h;exact⟨_,U, .trip (by omega)⟩
 ·obtain⟨h1,rfl⟩:=c_ bD
  obtain⟨rfl,rfl⟩:=c_ h1;simp only[bb,decide_eq_true_eq]at h;exact⟨_,U, .path (by omega)⟩
 ·obtain⟨h1,rfl⟩:=c_ bD
  obtain⟨rfl,rfl⟩:=c_ h1;exact⟨_,U, .test⟩
 ·obtain⟨h1,rfl⟩:=c_ bD
  obtain⟨rfl,rfl⟩:=c_ h1;exact⟨_,U, .bad⟩
 ·obtain⟨h1,rfl⟩:=c_ bD
  obtain⟨rfl,rfl⟩:=c_ h1;simp only[bb,decide_eq_true_eq]at h;exact⟨_,U, .token (by omega)⟩
 ·obtain⟨h1,rfl⟩:=c_ bD
  obtain⟨rfl,rfl⟩:=c_ h1;simp only[bb,decide_eq_true_eq]at h;obtain⟨_,_,_,⟨h4,h5⟩,_,h6⟩:=h;obtain⟨e1,e2⟩:=QJ h4;exact⟨_,by show(VanetgNeutral.text? _).map _=_;rw[e1];rfl, .play e2 (by rw[aI];exact h5) (by omega)⟩
 ·obtain⟨h1,rfl⟩:=c_ bD
  obtain⟨rfl,rfl⟩:=c_ h1;exact⟨_,U, .place⟩
 ·obtain⟨h1,rfl⟩:=c_ bD
  obtain⟨rfl,rfl⟩:=c_ h1;exact⟨_,U, .draw⟩
 ·cases h
theorem sO{α β:Type}{R:α->β->Prop}{vs:List α}{y:β}{r:List β}(h:Paired R vs (y::r)):∃v vr,vs=v::vr/\ R v y/\ Paired R vr r:=by
 cases h with
 |cons h1 h2=>exact⟨_,_,U,h1,h2⟩
def aez(A:aE):Sp:=λvs H Q _=>∃(Z:Addr->Prop) (h:Addr) (x:P3) (c dx na ra:Addr) (rvs:List V) (e:Nat) (k:Int) (nums:List Int) (rows:List (List Int)) (cc:Vanetg.Call),vs=[.ref h, .ref c]/\ fo A Z H h x/\ Qv A H c dx na ra rvs e k nums rows/\ jo k nums rows cc/\ jm A Z H h x cc Q
theorem aeA(T:Txt K mg A):Gd P w K mg base 11 A.Fg A.M4 ["self","call"] (aez A):=by
 refine T.YK.go (N:=["self","call"]) ?_;rintro aC A' outer s H vs Q E hr nd ⟨Z,h,x,c,dx,na,ra,rvs,e,k,nums,rows,cc,rfl,hh,ca,ac,q⟩;refine⟨_,(af (a9 (aR cj (ao (pv 1)) (aW T.VZ)) (ag (aB (bN hr (adU T) T.cy T.W6 (pv 0) (aj (aT (ao (pv 1)) ak))))) bt)
  (af (a9 (aR cj (ao (pv 1)) (aW T.V0)) (ag (aB (dO hr (adm T) T.cy T.W7 (pv 0)))) bt)
  (af (a9 (aR cj (ao (pv 1)) (aW T.V1)) (ag (aB (dO hr (ado T) T.cy T.W8 (pv 0)))) bt)
  (af (a9 (aR cj (ao (pv 1)) (aW T.V2)) (ag (aB (bN hr (adt T) T.cy T.W9 (pv 0) (aY (aT (ao (pv 1)) ak) (aT (ao (pv 1)) ak))))) bt)
  (af (a9 (aR cj (ao (pv 1)) (aW T.V3)) (ag (aB (bN hr (adv T) T.cy T.W_ (pv 0) (aY (aT (ao (pv 1)) ak) (aT (ao (pv 1)) ak))))) bt)
  (af (a9 (aR cj (ao (pv 1)) (aW T.V4)) (ag (aB (bN hr (adz T) T.cy T.W' (pv 0) (aj (aT (ao (pv 1)) ak))))) bt)
  (af (a9 (aR cj (ao (pv 1)) (aW T.V5)) (ag (aB (dO hr (adB T) T.cy T.Xa (pv 0)))) bt)
  (af (a9 (aR cj (ao (pv 1)) (aW T.V6)) (ag (aB (dO hr (adG T) T.cy T.Xb (pv 0)))) bt)
  (af (a9 (aR cj (ao (pv 1)) (aW T.V7)) (ag (aB (bN hr (adM T) T.cy T.Xc (pv 0) (aY (aT (ao (pv 1)) ak) (aT (ao (pv 1)) ak))))) bt)
  (af (a9 (aR cj (ao (pv 1)) (aW T.V8)) (ag (aB (bN hr (ad4 T) T.cy T.Xd (pv 0) (fM (ao (pv 1)) (aY (aT (ao (pv 1)) ak) (aT (ao (pv 1)) ak)))))) bt)
  (af (a9 (aR cj (ao (pv 1)) (aW T.V9)) (ag (aB (bN hr (adK T) T.cy T.Xe (pv 0) (aj (aT (ao (pv 1)) ak))))) bt)
  (ag (aB (dO hr (adD T) T.cy T.Xf (pv 0))))))))))))))),?_⟩
 obtain⟨A5,hpv,hqv,r⟩:=id hh;have hn:=ca.hn;have lC:=ca.hr;have each:=ca.each;have test:∀{D:Ends} {t1 t2:TS} (j:Int),(if decide (k=j)=true then t1 D [some (.ref h),some (.ref c)] H else t2 D [some (.ref h),some (.ref c)] H)->rC (l_ (cw l9 (ir K (aZ 1) "kind") (tC (.int j)))) t1 t2 D [some (.ref h),some (.ref c)] H:=λ{D t1 t2} j hj=>by refine⟨_,U,c,_,_,_,_,U,ca.obj,T.e_,T.Ae,U,U,_,U,?_⟩;rw[Hy];exact hj
 cases ac with
 | @set t b e1 e2=>obtain⟨v,_,rfl,⟨a1,rfl,h1⟩,xP⟩:=sO each;refine test 0 (aJ ?_);exact⟨_,U,h,_,_,U,r.obj,U,_,U,c,_,_,_,_,U,ca.obj,T.e_,T.oW,U,ra,_,_,_,U,U,ab.of lC,bT,Z,h,x, .ref a1,b,U,hh,⟨a1,U,by rw[h1,e1]⟩,e2,q⟩
 |form=>refine test 0 (aA ?_);refine test 1 (aJ ?_);exact⟨_,U,h,_,_,U,r.obj,U,Z,h,x,U,hh,q⟩
 |size=>refine test 0 (aA ?_);refine test 1 (aA ?_);refine test 2 (aJ ?_);exact⟨_,U,h,_,_,U,r.obj,U,Z,h,x,U,hh,q⟩
 | @next p w e1=>obtain⟨v,_,rfl,⟨a1,rfl,h1⟩,xP⟩:=sO each;refine test 0 (aA ?_);refine test 1 (aA ?_);refine test 2 (aA ?_);refine test 3 (aJ ?_);exact⟨_,U,h,_,_,U,r.obj,U,_,U,c,_,_,_,_,U,ca.obj,T.e_,T.uq,U,na,_,_,_,U,U,ab.of hn,bT,_,U,c,_,_,_,_,U,ca.obj,T.e_,T.oW,U,ra,_,_,_,U,U,ab.of lC,bT,Z,h,x,p,a1,w,U,hh,h1,e1,q⟩
 | @trip p w e1=>obtain⟨v,_,rfl,⟨a1,rfl,h1⟩,xP⟩:=sO each;refine test 0 (aA ?_);refine test 1 (aA ?_);refine test 2 (aA ?_);refine test 3 (aA ?_);refine test 4 (aJ ?_);exact⟨_,U,h,_,_,U,r.obj,U,_,U,c,_,_,_,_,U,ca.obj,T.e_,T.uq,U,na,_,_,_,U,U,ab.of hn,bT,_,U,c,_,_,_,_,U,ca.obj,T.e_,T.oW,U,ra,_,_,_,U,U,ab.of lC,bT,Z,h,x,p,a1,w,U,hh,h1,e1,q⟩
 | @path w e1=>obtain⟨v,_,rfl,⟨a1,rfl,h1⟩,xP⟩:=sO each;refine test 0 (aA ?_);refine test 1 (aA ?_);refine test 2 (aA ?_);refine test 3 (aA ?_);refine test 4 (aA ?_);refine test 5 (aJ ?_);exact⟨_,U,h,_,_,U,r.obj,U,_,U,c,_,_,_,_,U,ca.obj,T.e_,T.oW,U,ra,_,_,_,U,U,ab.of lC,bT,Z,h,x,a1,w,U,hh,h1,e1,q⟩
 |test=>refine test 0 (aA ?_);refine test 1 (aA ?_);refine test 2 (aA ?_);refine test 3 (aA ?_);refine test 4 (aA ?_);refine test 5 (aA ?_);refine test 6 (aJ ?_);exact⟨_,U,h,_,_,U,r.obj,U,Z,h,x,U,hh,q⟩
 |bad=>refine test 0 (aA ?_);refine test 1 (aA ?_);refine test 2 (aA ?_);refine test 3 (aA ?_);refine test 4 (aA ?_);refine test 5 (aA ?_);refine test 6 (aA ?_);refine test 7 (aJ ?_);exact⟨_,U,h,_,_,U,r.obj,U,Z,h,x,U,hh,q⟩
 | @token i p e1=>obtain⟨v,_,rfl,⟨a1,rfl,h1⟩,xP⟩:=sO each;refine test 0 (aA ?_);refine test 1 (aA ?_);refine test 2 (aA ?_);refine test 3 (aA ?_);refine test 4 (aA ?_);refine test 5 (aA ?_);refine test 6 (aA ?_);refine test 7 (aA ?_);refine test 8 (aJ ?_);exact⟨_,U,h,_,_,U,r.obj,U,_,U,c,_,_,_,_,U,ca.obj,T.e_,T.uq,U,na,_,_,_,U,U,ab.of hn,bT,_,U,c,_,_,_,_,U,ca.obj,T.e_,T.oW,U,ra,_,_,_,U,U,ab.of lC,bT,Z,h,x,i,a1,p,U,hh,h1,e1,q⟩
 | @play i j m t p b e1 e2 e3=>obtain⟨v,_,rfl,⟨a1,rfl,h1⟩,each2⟩:=sO each;obtain⟨v2,_,rfl,⟨a2,rfl,h2⟩,xP⟩:=sO each2;refine test 0 (aA ?_);refine test 1 (aA ?_);refine test 2 (aA ?_);refine test 3 (aA ?_);refine test 4 (aA ?_);refine test 5 (aA ?_);refine test 6 (aA ?_);refine test 7 (aA ?_);refine test 8 (aA ?_);refine test 9 (aJ ?_);exact⟨_,U,h,_,_,U,r.obj,U,_,U,c,_,_,_,_,U,ca.obj,T.e_,T.uq,U,_,U,c,_,_,_,_,U,ca.obj,T.e_,T.oW,U,ra,_,_,_,U,U,ab.of lC,bT,_,U,c,_,_,_,_,U,ca.obj,T.e_,T.oW,U,ra,_,_,_,U,U,ab.of lC,fO,Z,h,x,na,i,j,m, .ref a1,b,a2,p,U,hh,hn,⟨a1,U,by rw[h1,e1]⟩,e2,h2,e3,q⟩
 | @place i=>refine test 0 (aA ?_);refine test 1 (aA ?_);refine test 2 (aA ?_);refine test 3 (aA ?_);refine test 4 (aA ?_);refine test 5 (aA ?_);refine test 6 (aA ?_);refine test 7 (aA ?_);refine test 8 (aA ?_);refine test 9 (aA ?_);refine test 10 (aJ ?_);exact⟨_,U,h,_,_,U,r.obj,U,_,U,c,_,_,_,_,U,ca.obj,T.e_,T.uq,U,na,_,_,_,U,U,ab.of hn,bT,Z,h,x,i,U,hh,q⟩
 |draw=>refine test 0 (aA ?_);refine test 1 (aA ?_);refine test 2 (aA ?_);refine test 3 (aA ?_);refine test 4 (aA ?_);refine test 5 (aA ?_);refine test 6 (aA ?_);refine test 7 (aA ?_);refine test 8 (aA ?_);refine test 9 (aA ?_);refine test 10 (aA ?_);exact⟨_,U,h,_,_,U,r.obj,U,Z,h,x,U,hh,q⟩
theorem aeB(c:List (List Int)):PyVanetg.whole c=c:=by unfold PyVanetg.whole;split<;>rfl
theorem aeC(cs:List (List (List Int))):cs.map PyVanetg.whole=cs:=by rw[show PyVanetg.whole=id from funext aeB,List.map_id]
theorem aeD{f:Nat}{l:List Int}{cs:List (List (List Int))}(h:PyFlat.calls PyVanetg.shape f l=some cs)(hl:l≠ []):∃f' c t nV,PyFlat.call PyVanetg.shape l=some (c,t)/\ PyFlat.calls PyVanetg.shape f' t=some nV/\ cs=c::nV:=by
 cases l with
 |nil=>exact absurd U hl
 |cons p r=>
  cases f with
  |zero=>cases h
  |succ f=>
   have h:(match PyFlat.call PyVanetg.shape (p::r)with
    |none=>none
    |some (c,t)=>match PyFlat.calls PyVanetg.shape f t with
     |none=>none
     |some cs=>some (c::cs))=some cs:=h
   cases hc:PyFlat.call PyVanetg.shape (p::r)with
   |none=>rw[hc]at h;cases h
   |some ct=>
    obtain⟨c,t⟩:=ct;rw[hc]at h;simp only at h;cases eT:PyFlat.calls PyVanetg.shape f t with
    |none=>rw[eT]at h;cases h
    |some nV=>rw[eT]at h;exact⟨f,c,t,nV,U,eT,(ay h).symm⟩
theorem aeE{f:Nat}{cs:List (List (List Int))}(h:PyFlat.calls PyVanetg.shape f []=some cs):cs=[]:=by
 cases f with
 |zero|succ f=>exact(ay h).symm
theorem aeF{l:List Int}(h:PyVanetg.answers_asked l=true):∃cs,PyFlat.calls PyVanetg.shape l.length l=some cs/\ cs.all VanetgNeutral.asked1=true/\ cs.length<=240/\ PyVanetg.answers l=PyFlat.told (PyFlat.played VanetgNeutral.step VanetgNeutral.start cs):=by
 unfold PyVanetg.answers_asked at h;unfold PyVanetg.answers;have e:PyVanetg.calls l=PyFlat.calls PyVanetg.shape l.length l:=by
  unfold PyVanetg.calls;cases PyFlat.calls PyVanetg.shape l.length l with
  |none=>rfl
  |some cs=>simp only[aeC]
 rw[e]at h⊢;cases hc:PyFlat.calls PyVanetg.shape l.length l with
 |none=>rw[hc]at h;cases h
 |some cs=>rw[hc]at h;simp only[bb,VanetgNeutral.asked,decide_eq_true_eq]at h;exact⟨cs,U,h.2.1,h.2.2.2,U⟩
theorem QK{n:Nat}(h:n<=10000000):n<sizeLine:=yb h (by decide)
theorem aeG{A:aE}{H:Hp}{h g:Addr}{x:P3}{o:HO}(r:fo A (λ_=>False) H h x)(hg:H g=none):fo A (λb=>b=g) (upd H g o) h x:=by
 obtain⟨dx,pv,qv,r⟩:=r;have s:=aa.new (o:=o) hg;have w:aa (Wo (aL (λ_=>False) h) H) (Wo (aL (λb=>b=g) h) (upd H g o)):=λb u e=>by obtain⟨e1,e2⟩:=iT e;rw[cR (by rintro(z|z);exact bS e2 hg z;exact e1 (.inr z))];exact s _ _ e2
 exact⟨dx,pv,qv,s _ _ r.obj,c7.mono _ _ _ _ w r.parts,bq.mono _ _ _ _ w r.points,r.ok,Ba ae⟩
theorem aeH{A:aE}{H:Hp}{h g:Addr}{x:P3}{xs:List V}{o:HO}(r:fo A (λb=>b=g) H h x)(hg:H g=some (.lst xs)):fo A (λb=>b=g) (upd H g o) h x:=by obtain⟨dx,pv,qv,r⟩:=r;have ngh:h≠g:=ig r.obj hg (by intro z;cases z);have w:Wo (aL (λb=>b=g) h) (upd H g o)=Wo (aL (λb=>b=g) h) H:=dP (.inl U);exact⟨dx,pv,qv,by rw[aD ngh];exact r.obj,by rw[w];exact r.parts,by rw[w];exact r.points,r.ok,Ba ae⟩
def aeI(A:aE)(K:PySem.W.Frag):Sp:=λvs H Q _=>∃(la:Addr) (l:List Int),vs=[.ref la]/\ ab K H la (l.map V.int)/\ l.length<=100000/\ PyVanetg.answers_asked l=true/\ ∀H' p,H' p=some (.lst ((PyVanetg.answers l).map V.int))->Q (.ref p) H'
theorem aeJ(T:Txt K mg A):Gd P w K mg base 12 A.zY A.Ff ["calls"] (aeI A K):=by
 refine T.NO.go (N:=["calls","holder","given","at","call","answer"]) ?_;rintro aC A' outer s H vs Q E hr nd ⟨la,l,rfl,jk,hlen,HF,q⟩;refine⟨_,(af (aN 1 nd (Ls hr (adX T) T.Y4 T.Wi))
  (af (aN 2 nd (aS bY))
  (af (aN 3 nd ak)
  (af (j3 PassesOwn.never (aR iq (pv 3) (dw T.c6 (pv 0))) (af (aN 4 nd (qh hr (aei T) T.Y3 T.Wh (aY (pv 0) (pv 3))))
  (af (aN 5 nd (bN hr (aeA T) T.cy T.W5 (pv 1) (aj (pv 4))))
  (af (bF (dD (pv 2) (dw T.c6 (pv 5))))
  (af (bF (wb PySem.F.plainAttrs_list PySem.F.slot_list_extend PySem.F.type_list_extend zt (pv 2) (aj (pv 5))))
  (ag (aN 3 nd (ao (pv 4)))))))))
  (ag (aB (pv 2))))))),?_⟩
 obtain⟨cs0,aeL,aeM,PJ,aeN⟩:=aeF HF;intro h dx hh A5 hhd;have s1:aa H (upd (upd H dx (.own h)) h (.ins A.ef dx [])):=c5 (aa.new A5) hh;refine⟨h,dx,U,ae,λH1 k1 aeO=>⟨U,?_⟩⟩;have QL:aa H H1:=λb o e=>k1 _ _ (s1 _ _ e) (bS e hh);obtain⟨W,hW⟩:∃W:Addr->Nat->L2.St->Hp->Prop,W=λg m σ' H'=>∃(at_:Nat) (x:P3) (acc:List Int) (cs:List (List (List Int))) (f:Nat) (u v:Option V),m=l.length-at_/\ at_<=l.length/\ PyFlat.calls PyVanetg.shape f (l.drop at_)=some cs/\ cs.all VanetgNeutral.asked1=true/\ acc.length+20001*cs.length<=20001*240/\
  σ'=[some (.ref la),some (.ref h),some (.ref g),some (nI at_),u,v]/\ aa H H'/\ fo A (λb=>b=g) H' h x/\ H' g=some (.lst (acc.map V.int))/\ acc++PyFlat.told (PyFlat.played VanetgNeutral.step (ah x) cs)=PyVanetg.answers l:=⟨_,U⟩
 refine⟨bj _,λg hg=>⟨W g,⟨_,by
  rw[hW];exact⟨0,x0,[],cs0,l.length,none,none,U,bj _,by rw[kL];exact aeL,aeM,by rw[kI];omega,U,QL.trans (aa.new hg),aeG aeO hg,ae,by rw[mS,adg,aeN];rfl⟩⟩,λm σ' H' w'=>?_⟩⟩
 have AK:H g=none:=eU QL hg;rw[hW]at w';obtain⟨at_,x,acc,cs,f,u,v,rfl,eD,eT,fw,eg,rfl,sm,hold,xf,heq⟩:=w';refine⟨_,U,_,U,la,_,U, .inl (sm.seq jk),_,_,U,U,_,U,?_⟩;rw[aI];by_cases aU:at_<l.length
 ·rw[show decide ((at_:Int)<(l.length:Int))=true from decide_eq_true (by omega)]
  refine aJ ⟨λσ' H'=>∃m',m'<l.length-at_/\ W g m' σ' H',λ_ _ h=>h,?_⟩;obtain⟨f',cl,rest,nV,e1,e2,e3⟩:=aeD eT (by intro z;have:=congrArg List.length z;simp at this;omega);subst e3;rw[iB,bb]at fw;obtain⟨qw,Gk⟩:=fw;obtain⟨k,nums,rows,ecl⟩:∃k nums rows,cl=(k::nums)::rows:=by
   cases hd:l.drop at_ with
   |nil=>rw[hd]at e1;cases e1
   |cons z r=>rw[hd]at e1;obtain⟨n,k,xs,_,_,_,e⟩:=Qx e1;exact⟨z,_,xs,e⟩
  subst ecl;obtain⟨cc,tS,ac⟩:=aey qw;refine⟨_,U,_,U,?_⟩;intro c dc hc hdc kT;have s2:aa H' (upd (upd H' dc (.own c)) c (.ins A.cX dc [])):=c5 (aa.new hdc) hc;refine⟨c,dc,la,l,at_,k,nums,rows,rest,U,ae,(sm.trans s2).seq jk,hlen,e1,λH2 na ra rvs e k2 ca er HD oQ=>⟨U,?_⟩⟩;have s3:aa H' H2:=λb o e=>k2 _ _ (s2 _ _ e) (bS e hc);have QM:fo A (λb=>b=g) H2 h x:=by obtain⟨a1,a2,a3,r⟩:=hold;exact⟨a1,a2,a3,r.mono s3⟩
  obtain⟨a1,a2,a3,r2⟩:=id QM;have nch:c≠h:=λz=>by obtain⟨_,_,_,r⟩:=hold;have:=r.obj;rw[<-z,hc]at this;cases this
  have ngc:g≠c:=bS xf hc;refine⟨_,U,h,_,_,U,r2.obj,U,_,U,(λb=>b=g),h,x,c,dc,na,ra,rvs,e,k,nums,rows,cc,U,QM,ca,ac,λx' al H3 k3 aeQ aeR QN Bg=>?_⟩;have Bh:=s3 _ _ xf;have ngh:g≠h:=ig Bh r2.obj (by intro z;cases z);have HG:=k3 _ _ Bh ngh;have nga:g≠al:=λz=>by rw[z]at Bh;rw[Bh]at QN;cases QN
  have f7:=aev r2.ok cc (aex ac);have co3:=k3 _ _ ca.obj nch;have rZ:aa H H3:=λb o e=>k3 _ _ (s3 _ _ (sm _ _ e)) (bS e hh);have cD:VanetgNeutral.step (ah x) ((k::nums)::rows)=((Vanetg.step (ah x) cc).1,VanetgNeutral.encode (Vanetg.step (ah x) cc).2):=by unfold VanetgNeutral.step;rw[tS]
  unfold A7 at Bg f7;generalize hE:VanetgNeutral.encode (Vanetg.step (ah x) cc).2=En at Bg f7 cD;rw[aI]at f7;rw[aX]at eg;have hstep:PyFlat.told (PyFlat.played VanetgNeutral.step (ah x) (((k::nums)::rows)::nV))=((En.length:Int)::En)++PyFlat.told (PyFlat.played VanetgNeutral.step (ah x') nV):=by have:PyFlat.played VanetgNeutral.step (ah x) (((k::nums)::rows)::nV)=(VanetgNeutral.step (ah x) ((k::nums)::rows)).2::PyFlat.played VanetgNeutral.step (VanetgNeutral.step (ah x) ((k::nums)::rows)).1 nV:=rfl;rw[this,cD,<-aeR];unfold PyFlat.told;rw[gE]
  rw[hstep]at heq;refine⟨_,U, .inl ⟨U,_,ab.of HG⟩,_,U,al,_,U, .inl (ab.of Bg),g,_,_,U,U,HG,QK (by rw[aI];omega),?_⟩;refine⟨_,U, .inl ⟨U,_,ab.of ae⟩,_,U,g,al,_,_,U,U,ae,(by rw[aD (Ne.symm nga)];exact Bg),x9 (QK (by simp;omega)),?_⟩;refine⟨_,U,c,_,_,_,_,U,(by rw[aD (Ne.symm ngc),aD (Ne.symm ngc)];exact co3),T.e_,T.uo,U,l.length-e,by omega,?_⟩;rw[hW,jz];refine⟨e,x',acc++((En.length:Int)::En),nV,f',_,_,U,oQ,by rw[er];exact e2,Gk,by rw[bL,aX];omega,U,c5 rZ AK,aeH aeQ HG,?_,by rw[fK];exact heq⟩;rw[ae];simp
 ·have e:at_=l.length:=by omega
  rw[show decide ((at_:Int)<(l.length:Int))=false from decide_eq_false (by omega)];rw[e,lG]at eT;have:=aeE eT;subst this;refine aA ⟨_,U,q H' g ?_⟩;rw[xf,<-heq];simp[PyFlat.told,PyFlat.played]
def QO(K:PySem.W.Frag):Sp:=λvs H Q _=>∃(la:Addr) (l:List Int),vs=[.ref la]/\ ab K H la (l.map V.int)/\ l.length<=100000/\ PyVanetg.answers_asked l=true/\ ∀H' p,H' p=some (.lst ((PyVanetg.answers l).map V.int))->Q (.ref p) H'
theorem aeT{P:Program}{w:World}{K:PySem.W.Frag}{mg:Str->Option Value}{A:aE}(T:Txt K mg A){fa:Addr}(e:mg "answers"=some (.ref fa)):
  ∃fd:FuncData,(∀(s:Shared) (us:List Value),us.length=(["calls"]:List Str).length->BindsTo s fd ⟨us,[]⟩ ((["calls"]:List Str).zip us))/\ ∀base:Heap,K.In base->base.Ns mainGlobals mg->iu P w K mg base rS 12 fa fd ["calls"] (QO K):=by
 have e1:=e.symm.trans T.W4;have e2:fa=A.zY:=Value.ref.inj (ay e1);subst e2;refine⟨A.Ff,λs us hu=>?_,λbase _ _=>(aeJ (P:=P) (w:=w) (base:=base) T).ok⟩;obtain⟨oc,od,kV,doc,pm,an,aC,ct,osl,e,lk,kT⟩:=T.NO.ex;rw[e];match us,hu with
 |[_],_=>exact .of_eq U
theorem int_mk{K:PySem.W.Frag}{h:Heap}{mg:Str->Option Value}{x:Str}{i:Int}{t:Tok}(X:K.In h)(G:h.Ns mainGlobals mg)(a:PySem.W.nsIn K mainGlobals x=some (some (.int i t))):∃t,mg x=some (.int i t):=⟨t,PySem.W.mg_of X G a⟩
theorem str_mk{K:PySem.W.Frag}{h:Heap}{mg:Str->Option Value}{x y:Str}{t:Tok}(X:K.In h)(G:h.Ns mainGlobals mg)(a:PySem.W.nsIn K mainGlobals x=some (some (.str y t))):∃t,mg x=some (.str y t):=⟨t,PySem.W.mg_of X G a⟩
theorem aen{xs:List V}{t:Addr}{o:Obj}{ai:Array Value}{n:Nat}(l:K.lookup t=some o)(hc:o.cls= .type "tuple")(hd:o.data= .seq ai n)(hz:ai.size<=sizeLine)(hv:Vals xs ai.toList):∀H:Hp,bz K H t xs:=λ_=> .inr ⟨o,ai,n,l,hc,hd,hz,hv⟩
end
end PP
open PySem PySem.W PyProof.Rows
set_option maxHeartbeats 0 in
theorem PySem.Challenge.cw_proofpaths_s01_answers_holds : PySem.Challenge.rw_proofpaths_s01_answers.Holds := by
 w_on;k_headS;(case hw=>exact⟨[.list [.int 1]],by decide+kernel,by decide+kernel⟩)
 k_fillS
 refine L2.Vj (r:=PySem.Challenge.rw_proofpaths_s01_answers) (k:=12) (CX:=L2.rS) (ps:=["calls"]) (sp:=PP.QO) (by decide+kernel) rfl rfl ⟨rfl,by decide,by decide⟩ (λw h Y=>PySem.W.kIn_of Y) ?F ?S (λ_ _ _ _ z=>z)
 case F=>
  intro w mg fa h Y KX G DJ
  refine' PP.aeT (A:= .mk) ?T DJ
  case T=>
   constructor
   all_goals try dsimp only
   all_goals first
   |exact PySem.W.mg_none_of KX G (by k_is)
   |exact PySem.W.mg_of KX G (by k_is)
   |exact PP.int_mk KX G (by k_is)
   |exact PP.str_mk KX G (by k_is)
   |(refine' L2.UU ?l ?c ?k;(case l=>k_is);(case c=>k_is);(case k=>k_is))
   |(show PySem.W.findIn _ _ _=_;k_is)
   |(refine' PP.aen ?l ?a ?b ?z ?v;(case l=>k_is);(case a=>exact rfl);(case b=>exact rfl);(case z=>decide);(case v=>repeat (first|exact .nil|refine .cons ⟨_,rfl⟩ ?_)))
   |(constructor;all_goals k_is)
 case S=>
  intro K H xs a hO zP HF hx
  cases hx with
  |cons h1 h2=>
   cases h2
   cases h1 with
   |lst hs ha=>
    have e:=L2.K9 a.1 _ ha
    subst e
    have q:((Codec.inLen 0 17000 a.1&&a.1.all (Codec.inInt (-1000000000000000000) 1000000000000000000))&&true)=true:=zP
    rw[Bool.and_eq_true,Bool.and_eq_true]at q
    exact⟨_,a.1,rfl,hs,Nat.le_trans (Codec.inNat_iff.mp q.1.1).2 (by decide),HF,λH' p hp=> .lst (L2.ab.of hp) (L2.K8 _)⟩
