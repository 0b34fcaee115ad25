import PyProof.Rows.All
import Wide.All
import OpenK.AllK
import Wide.FinOn
import PyProof.EqAt
import PyProof.EqKinds
import PyProof.TupleCall
import KE.BitLaws
import Open.SpecLaws
import KE.OsHead
import KE.OsGo
import KE.KSortAsk
import PyProof.SetScanFacts
import PyProof.SetKind
import PyProof.SetRoads
import PyProof.CollectWalk
import PyProof.Rows.SetFrom
import PyProof.Rows.SortShell
import PyProof.Rows.SortWalk
import PySem.Challenge.RW_grouptable_s01_answers
set_option Elab.async false
set_option linter.all false
set_option maxRecDepth 1000000
set_option maxHeartbeats 0
def aa:=@Lean.Grind.Semiring.mul_assoc
def ae:=@List.length_map
def af:=@List.getD_eq_getElem?_getD
def ag:=@List.getElem?_map
def ai:=@Classical.byContradiction
def aj:=@List.getElem?_eq_getElem
def ao:=@PySem.W.mg_of
def aq:=@Nat.le_refl
def aw:=@PySem.Heap.get?_push_of_some
def ay:=@List.mem_map
def az:=@Lean.Grind.Semiring.zero_mul
def aC:=@List.length_cons
def aD:=@List.mem_range
def aF:=@PySem.wpAny_pure
def aG:=@decide_eq_true_eq
def aH:=@List.mem_cons
def aI:=@if_neg
def aJ:=@List.getElem?_eq_some_iff
def aL:=@List.mem_of_getElem?
def aM:=@Nat.mod_eq_of_lt
def aN:=@Bool.and_eq_true
def aO:=@if_pos
def aP:=@Lean.Grind.Semiring.one_mul
def aQ:=@List.mem_singleton
def aR:=@Lean.Grind.Semiring.mul_zero
def aS:=@PySem.Heap.lt_size
def aU:=@List.map_map
def aV:=@List.size_toArray
def aW:=@List.all_eq_true
def aX:=@List.getElem?_range
def aY:=@Int.toNat_natCast
def aZ:=@PySem.Heap.get?_push_size
def a6:=@List.map_cons
def a7:=@Option.some.inj
def ba:=@congrArg
def bb:=@Bool.false_ne_true
def bg:=@List.mem_filter
def bh:=@List.length_range
def bo:=@List.map_append
def br:=@Nat.ne_of_lt
def bu:=@List.mem_cons_of_mem
def bw:=@Lean.Grind.Semiring.add_zero
def bx:=@PySem.PassesOwn.never
def bA:=@List.nodup_finRange
def bB:=@Nat.zero_le
def bC:=@List.length_append
def bD:=@PySem.sizeLine_eq
def bF:=@PySem.F.plainAttrs_list
def bJ:=@Nat.lt_of_lt_of_le
def bK:=@PySem.boot_len
def bL:=@Lean.Grind.Semiring.mul_one
def bM:=@List.map_congr_left
def bO:=@List.ext_getElem
def bP:=@List.mem_append
def bS:=@Array.length_toList
def bT:=@PySem.mem_of_lookup
def bV:=@List.nodup_cons
def bW:=@Nat.le_trans
def bX:=@Lean.Grind.Semiring.right_distrib
def bY:=@List.getElem_map
def ck:=@List.mem_finRange
def cn:=@List.getElem_mem
def cu:=@List.pairwise_cons
def cv:=@List.mem_cons_self
def cx:=@List.length_finRange
def cC:=@PySem.W.mg_none_of
def cD:=@PySem.Heap.size_push
def cH:=@Nat.le_mul_of_pos_left
def cM:=@List.getElem_range
def cN:=@List.getElem?_eq_none
def cO:=@beq_eq_false_iff_ne
def cQ:=@List.range_succ
def cS:=@List.any_eq_true
def cT:=@List.length_take
def cU:=@Lean.Grind.Semiring.left_distrib
def cV:=@beq_iff_eq
def cY:=@Nat.not_lt_zero
def da:=@List.nodup_range
def de:=@Option.getD_some
def dj:=@List.flatMap_cons
def du:=@Fin.ext
def dA:=@List.length_pos_of_mem
def dB:=@Nat.dvd_of_mod_eq_zero
def dE:=@List.getElem?_append_left
def dI:=@Classical.choose_spec
def dJ:=@List.mem_append_right
def dM:=@Option.isSome_iff_exists
def dN:=@PySem.F.slot_list_append
def dO:=@PySem.F.type_list_append
def dS:=@List.append_nil
def dW:=@Bool.false_eq_true
def dX:=@PySem.Heap.get?_update_self
def dZ:=@List.mem_flatMap
def d5:=@List.getElem?_replicate
def d6:=@List.getElem?_of_mem
def d7:=@PyProof.Rows.callWith_type1
def eh:=@Nat.lt_irrefl
def ej:=@List.range_succ_eq_map
def eB:=@List.length_filter_le
def eC:=@PySem.wpAny_truthy_bool
def eE:=@PySem.Heap.SameBut.update
def eF:=@List.length_drop
def eK:=@Nat.pow_succ
def eN:=@Nat.mul_le_mul_right
def eO:=@Bool.and_false
def eY:=@Bool.or_eq_true
def fb:=@if_false
def fe:=@Nat.mul_le_mul_left
def ff:=@PySem.Around.under_plainId
def fg:=@Nat.ne_of_gt
def fh:=@List.take_of_length_le
def fj:=@Int.zero_add
def fz:=@Bool.not_eq_true
def fD:=@if_true
def fK:=@PySem.wpAny_holding
def fP:=@PySem.wpAny_call_entry
def fV:=@List.mem_append_left
def gk:=@List.replicate_succ
def gm:=@List.getElem_of_mem
def gn:=@PySem.codeAny_builtin
def gF:=@List.filter_cons
def gG:=@Lean.Grind.CommSemiring.mul_comm
def gH:=@List.Perm.refl
def gJ:=@List.getLast?_cons_cons
def gK:=@List.lookup_cons
def gL:=@List.take_length
def gQ:=@PySem.MeetsSeq3.plain_eq_loop
def gY:=@List.pairwise_lt_range
def gZ:=@List.filter_append
def iu:=@List.foldl_cons
def iw:=@Bool.eq_iff_iff
def iy:=@List.of_mem_zip
def iG:=@PyProof.Rows.src_list
def iK:=@Nat.lt_trichotomy
def iL:=@List.foldl_append
def iM:=@Ne.symm
def iN:=@Nat.lt_succ_of_lt
def i5:=@PySem.wpAny_mono
def i6:=@PySem.wpAny_Call_Name_kw
def ja:=@Nat.mul_le_mul
def jb:=@List.getElem?_append_right
def jc:=@PySem.wpAny_passesOwn
def jd:=@Bool.false_and
def jw:=@List.map_nil
def jD:=@PySem.wpAny_newObj_type
def jE:=@PySem.wpAny_setState_of
def jN:=@PyProof.Rows.F.plain_set_update_loop
def jZ:=@Nat.le_of_dvd
def j0:=@Nat.pow_le_pow_iff_right
def j3:=@List.map_take
def j4:=@PySem.F.slot_list_extend
def j5:=@PySem.F.type_list_extend
def ko:=@PySem.wpAny_askSetting
def kq:=@List.length_eq_zero_iff
def kr:=@Int.le_refl
def kX:=@PySem.wpAny_setEntries_of
def k7:=@List.append_assoc
def k8:=@List.getElem?_set_self
def k9:=@List.drop_of_length_le
def l5:=@PySem.wpAny_callSpecial?_slot
def mG:=@List.getElem_inj
def mH:=@Nat.lt_succ_self
def mI:=@Nat.le_add_right
def mJ:=@List.sum_cons
def nF:=@List.Pairwise.filter
def nH:=@List.getElem?_set_ne
def nJ:=@PySem.Heap.get?_update_other
def nQ:=@PySem.wpAny_setField
def oq:=@List.length_nil
def ou:=@List.countP_eq_length_filter
def ow:=@List.length_zip
def oy:=@List.filter_sublist
def oz:=@List.filterMap_cons
def pd:=@Nat.mul_succ
def pf:=@Nat.mul_comm
def pj:=@Nat.le_of_eq
def pk:=@PyProof.Rows.src_range
def pT:=@PySem.plainId_quiet
def pZ:=@List.filter_filter
def p0:=@Nat.mod_lt
def p5:=@List.Nodup.sublist
def p6:=@Int.natCast_nonneg
def p7:=@List.zip_cons_cons
def qJ:=@List.pairwise_iff_getElem
def qM:=@List.nodup_append
def qN:=@Nat.add_mul
def qO:=@List.getElem_drop
def qP:=@Nat.le_of_succ_le
def qQ:=@List.pairwise_map
def sj:=@PySem.codeAny_mono
def sk:=@List.getElem?_take_of_lt
def sm:=@List.any_cons
def so:=@List.map_drop
def sx:=@PyProof.Rows.int_at
def tO:=@List.filter_cons_of_pos
def tP:=@List.filter_cons_of_neg
def tQ:=@List.map_reverse
def tR:=@List.not_mem_nil
def uE:=@Nat.le_of_lt
def uZ:=@List.length_set
def u0:=@Nat.min_eq_left
def u1:=@PySem.fits_of_scanBound
def xp:=@List.getElem_finRange
def xq:=@List.getElem?_zipWith
def xr:=@List.length_replicate
def xt:=@PySem.W.methodCall_KW
def xX:=@List.mem_of_mem_take
def AF:=@PyProof.Rows.F.entry_set_update_loop
def AJ:=@PySem.wpAny_execs_nil
def AK:=@PySem.pushCells_keeps
def Hs:=@List.eq_nil_iff_forall_not_mem
def HC:=@PyProof.Rows.boot_range
section
namespace Ch
open Lean.Grind (Semiring Ring CommRing CommSemiring)
section sums
variable{α β:Type}{R:Type} [Semiring R]
theorem gq(a:R):0+a=a:=by rw[Semiring.add_comm,bw]
def lsum(l:List α)(f:α→R):R:=l.foldr (fun a s=>f a+s) 0
@[simp] theorem fL(f:α→R):lsum [] f=0:=rfl
@[simp] theorem cz(a:α)(l:List α)(f:α→R):lsum (a::l) f=f a+lsum l f:=rfl
theorem oA(l m:List α)(f:α→R):lsum (l++m) f=lsum l f+lsum m f:=by
 induction l with
 |nil=>simp[gq]
 |cons a l ih=>simp[ih,Semiring.add_assoc]
theorem iO(l:List α)(g:α→β)(f:β→R):lsum (l.map g) f=lsum l (fun a=>f (g a)):=by
 induction l with
 |nil=>rfl
 |cons a l ih=>simp[ih]
theorem bc{l:List α}{f g:α→R}(h: ∀a∈l,f a=g a):lsum l f=lsum l g:=by
 induction l with
 |nil=>rfl
 |cons a l ih=>
  simp only[cz]
  rw[h a (by simp),ih (fun b hb=>h b (by simp[hb]))]
theorem fo(l:List α):lsum l (fun _=>(0:R))=0:=by
 induction l with
 |nil=>rfl
 |cons a l ih=>simp[ih,bw]
theorem qR(l:List α)(f g:α→R):lsum l (fun a=>f a+g a)=lsum l f+lsum l g:=by
 induction l with
 |nil=>simp[bw]
 |cons a l ih=>simp only[cz,ih];grind
theorem bU(l:List α)(c:R)(f:α→R):c*lsum l f=lsum l (fun a=>c*f a):=by
 induction l with
 |nil=>simp[aR]
 |cons a l ih=>simp only[cz,cU,ih]
theorem cG(l:List α)(c:R)(f:α→R):lsum l f*c=lsum l (fun a=>f a*c):=by
 induction l with
 |nil=>simp[az]
 |cons a l ih=>simp only[cz,bX,ih]
theorem jf(l:List α)(m:List β)(f:α→β→R):
  lsum l (fun a=>lsum m (fun b=>f a b))=lsum m (fun b=>lsum l (fun a=>f a b)):=by
 induction l with
 |nil=>simp[fo]
 |cons a l ih=>simp only[cz,ih,qR]
theorem sy{l m:List α}(h:l.Perm m)(f:α→R):lsum l f=lsum m f:=by
 induction h with
 |nil=>rfl
 |cons a _ ih=>simp[ih]
 |swap a b l=>simp only[cz];grind
 |trans _ _ ih1 SA=>exact ih1.trans SA
theorem yZ(l:List α)(g:α→List β)(f:β→R):
  lsum (l.flatMap g) f=lsum l (fun a=>lsum (g a) f):=by
 induction l with
 |nil=>rfl
 |cons a l ih=>simp[dj,oA,ih]
def nc(k:Nat):R:=match k with
 |0=>0
 |k+1=>nc k+1
theorem dU:(nc 0:R)=0:=rfl
theorem eL(k:Nat):(nc (k+1):R)=nc k+1:=rfl
theorem gN:(nc 1:R)=1:=by rw[eL,dU,gq]
theorem u4(a b:Nat):(nc (a+b):R)=nc a+nc b:=by
 induction b with
 |zero=>rw[Nat.add_zero,dU,bw]
 |succ b ih=>rw[Nat.add_succ,eL,ih,eL,Semiring.add_assoc]
theorem cf(a b:Nat):(nc (a*b):R)=nc a*nc b:=by
 induction b with
 |zero=>rw[Nat.mul_zero,dU,aR]
 |succ b ih=>rw[pd,u4,ih,eL,cU,bL]
theorem qS(a:Nat)(x:R):nc a*x=x*nc a:=by
 induction a with
 |zero=>rw[dU,az,aR]
 |succ a ih=>rw[eL,bX,cU,ih,aP,bL]
theorem jg(l:List α)(c:R):lsum l (fun _=>c)=nc l.length*c:=by
 induction l with
 |nil=>simp only[fL,oq];rw[dU,az]
 |cons a l ih=>
  simp only[cz,aC,ih]
  rw[eL];grind
theorem jF(l:List α)(p:α→Bool)(f:α→R):
  lsum (l.filter p) f=lsum l (fun a=>if p a=true then f a else 0):=by
 induction l with
 |nil=>rfl
 |cons a l ih=>
  by_cases h:p a=true
  ·simp[h,ih]
  ·simp only[cz,gF,h];simp[gq,ih]
theorem u5(l:List α)(p:α→Bool)(f:α→R):
  lsum l f=lsum (l.filter p) f+lsum (l.filter (fun a=>!p a)) f:=by
 rw[jF,jF,←qR]
 apply bc
 intro a _
 cases p a<;>simp[bw,gq]
theorem fA [DecidableEq α]{l:List α}(hn:l.Nodup){a:α}(ha:a∈l)(f:α→R)
  (h: ∀b∈l,b≠a→f b=0):lsum l f=f a:=by
 induction l with
 |nil=>simp at ha
 |cons b l ih=>
  simp only[bV]at hn
  simp only[cz]
  rcases aH.1 ha with rfl|hm
  ·have:lsum l f=0:=by
    rw[←fo (R:=R) l]
    apply bc
    intro c hc
    exact h c (by simp[hc]) (fun e=>hn.1 (e▸hc))
   rw[this,bw]
  ·have hb:f b=0:=h b (by simp) (fun e=>hn.1 (e▸hm))
   rw[hb,gq,ih hn.2 hm (fun c hc df=>h c (by simp[hc]) df)]
theorem qT{Q:Type} [Semiring Q](t:R→Q)(h0:t 0=0)(ha: ∀x y,t (x+y)=t x+t y)
  (l:List α)(f:α→R):t (lsum l f)=lsum l (fun a=>t (f a)):=by
 induction l with
 |nil=>exact h0
 |cons a l ih=>simp only[cz,ha,ih]
end sums
section counting
variable{α β:Type}
theorem a8 [DecidableEq α]{l m:List α}(hn:l.Nodup)(h: ∀a∈l,a∈m):l.length≤m.length:=by
 induction l generalizing m with
 |nil=>simp
 |cons a l ih=>
  simp only[bV]at hn
  have SE:a∈m:=h a (by simp)
  have h2: ∀b∈l,b∈m.erase a:=by
   intro b hb
   have df:b≠a:=fun e=>hn.1 (e▸hb)
   exact(List.mem_erase_of_ne df).2 (h b (by simp[hb]))
  have h3:=ih hn.2 h2
  rw[List.length_erase_of_mem SE]at h3
  have h4:0<m.length:=dA SE
  simp only[aC]
  omega
theorem cX [DecidableEq α]{l m:List α}(hl:l.Nodup)(hm:m.Nodup)(h: ∀a,a∈l↔a∈m):l.Perm m:=by
 rw[List.perm_iff_count]
 intro a
 by_cases ha:a∈l
 ·rw[hl.count,hm.count];simp[ha,(h a).1 ha]
 ·rw[List.count_eq_zero.2 ha,List.count_eq_zero.2 (fun x=>ha ((h a).2 x))]
theorem cR{l:List α}{f:α→β}(hl:l.Nodup)(hf: ∀a∈l,∀b∈l,f a=f b→a=b):(l.map f).Nodup:=by
 induction l with
 |nil=>simp
 |cons a l ih=>
  simp only[bV]at hl
  simp only[a6,bV,ay,not_exists,not_and]
  refine⟨fun b hb e=>?_,ih hl.2 (fun c hc d hd=>hf c (by simp[hc]) d (by simp[hd]))⟩
  have:=hf b (by simp[hb]) a (by simp) e
  exact hl.1 (this▸hb)
theorem lK{l:List α}{f:α→List β}(hl:l.Nodup)(hf: ∀a∈l,(f a).Nodup)
  (hd: ∀a∈l,∀b∈l,∀x,x∈f a→x∈f b→a=b):(l.flatMap f).Nodup:=by
 induction l with
 |nil=>simp
 |cons a l ih=>
  simp only[bV]at hl
  rw[dj,qM]
  refine⟨hf a (by simp),ih hl.2 (fun b hb=>hf b (by simp[hb])) (fun c hc d Ll=>hd c (by simp[hc]) d (by simp[Ll])),?_⟩
  intro x hx y hy e
  subst e
  obtain⟨b,hb,hxb⟩:=dZ.1 hy
  have:=hd a (by simp) b (by simp[hb]) x hx hxb
  exact hl.1 (this▸hb)
theorem jG{l:List α}{f:α→List β}{c:Nat}(h: ∀a∈l,(f a).length=c):(l.flatMap f).length=l.length*c:=by
 induction l with
 |nil=>simp
 |cons a l ih=>
  rw[dj,bC,h a (by simp),ih (fun b hb=>h b (by simp[hb])),aC]
  grind
theorem cE{l:List α}(p:α→Bool)(h:l.Nodup):(l.filter p).Nodup:=h.sublist oy
end counting
end Ch
end
section
namespace Ch
open Lean.Grind (Semiring Ring CommRing CommSemiring)
def gR(p:Nat):Prop:=2≤p∧∀d,d∣p→d=1∨d=p
theorem gR.coprime{p:Nat}(hp:gR p){a:Nat}(h: ¬p∣a):Nat.gcd a p=1:=by
 rcases hp.2 _ (Nat.gcd_dvd_right a p)with h1|h1
 ·exact h1
 ·exact absurd (h1▸Nat.gcd_dvd_left a p) h
theorem gR.dvd_mul{p:Nat}(hp:gR p){a b:Nat}(h:p∣a*b):p∣a∨p∣b:=by
 by_cases ha:p∣a
 ·exact .inl ha
 ·exact .inr (Nat.Coprime.dvd_of_dvd_mul_left (Nat.Coprime.symm (hp.coprime ha)) h)
section LI
variable{α:Type}
def it(s:α→α):Nat→α→α
 |0,x=>x
 |k+1,x=>it s k (s x)
theorem jP(s:α→α)(a b:Nat)(x:α):it s (a+b) x=it s a (it s b x):=by
 induction b generalizing x with
 |zero=>rfl
 |succ b ih=>rw[Nat.add_succ];exact ih (s x)
theorem AL(s:α→α)(a:Nat)(x:α):it s (a+1) x=s (it s a x):=by
 rw[Nat.add_comm,jP];rfl
theorem O2(s:α→α)(a b:Nat)(x:α)(h:it s a x=x):it s (a*b) x=x:=by
 induction b with
 |zero=>rfl
 |succ b ih=>rw[pd,jP,h,ih]
theorem O3(s:α→α)(x:α)(a b:Nat):it s a x=x→it s b x=x→it s (Nat.gcd a b) x=x:=by
 induction a,b using Nat.gcd.induction with
 |H0 n=>intro _ h;simpa using h
 |H1 m n hm ih=>
  intro h1 h2
  rw[Nat.gcd_rec]
  apply ih _ h1
  have h3:it s (n % m+m*(n / m)) x=x:=by rw[Nat.mod_add_div];exact h2
  rw[jP,O2 s m _ x h1]at h3
  exact h3
theorem y3{s:α→α}{X:List α}(h: ∀x∈X,s x∈X)(k:Nat): ∀x∈X,it s k x∈X:=by
 induction k with
 |zero=>exact fun x hx=>hx
 |succ k ih=>exact fun x hx=>ih _ (h x hx)
theorem LJ{R:Type} [Semiring R]{p:Nat}(hp:gR p)(hR:(nc p:R)=0) [DecidableEq α](s:α→α)(W:α→R):
  ∀(k:Nat)(X:List α),X.length≤k→X.Nodup→(∀x∈X,s x∈X)→(∀x∈X,it s p x=x)→(∀x∈X,W (s x)=W x)→
   lsum X W=lsum (X.filter (fun x=>decide (s x=x))) W:=by
 intro k
 induction k with
 |zero=>
  intro X hk _ _ _ _
  have:X=[]:=kq.1 (by omega)
  subst this;rfl
 |succ k ih=>
  intro X hk hn hs RT hW
  by_cases fq: ∀x∈X,s x=x
  ·rw[List.filter_eq_self.2 (by simpa using fq)]
  ·have⟨x,hx,df⟩: ∃x,x∈X∧s x≠x:=by
    apply ai
    intro h
    exact fq (fun x hx=>ai (fun h2=>h ⟨x,hx,h2⟩))
   have VM:2≤p:=hp.1
   have hO:((List.range p).map (fun i=>it s i x)).Nodup:=by
    have key: ∀i j,i<j→j<p→it s i x≠it s j x:=by
     intro i j oh hj e
     have h1:it s (j-i) (it s i x)=it s i x:=by
      rw[←jP,show j-i+i=j by omega];exact e.symm
     have h2:it s p (it s i x)=it s i x:=RT _ (y3 hs i x hx)
     have h3:=O3 s _ _ _ h1 h2
     rw[hp.coprime (fun hd=>by have:=jZ (by omega) hd;omega)]at h3
     have h4:it s (p-i+1) (it s i x)=it s (p-i) (it s i x):=by
      rw[jP,h3]
     rw[←jP,←jP,show p-i+1+i=1+p by omega,show p-i+i=p by omega,jP,RT x hx]at h4
     exact df h4
    apply cR da
    intro i hi j hj e
    simp only[aD]at hi hj
    rcases iK i j with h|h|h
    ·exact absurd e (key i j h hj)
    ·exact h
    ·exact absurd e.symm (key j i h hi)
   generalize hOd:(List.range p).map (fun i=>it s i x)=O at hO
   have FH: ∀y,y∈O↔ ∃i,i<p∧it s i x=y:=by
    intro y;rw[←hOd];simp
   have hOX: ∀y∈O,y∈X:=by
    intro y hy
    obtain⟨i,_,rfl⟩:=(FH y).1 hy
    exact y3 hs i x hx
   have hsO: ∀y∈O,s y∈O:=by
    intro y hy
    obtain⟨i,hi,rfl⟩:=(FH y).1 hy
    rw[←AL s i x]
    by_cases h:i+1<p
    ·exact(FH _).2 ⟨i+1,h,rfl⟩
    ·have:i+1=p:=by omega
     rw[this,RT x hx]
     exact(FH _).2 ⟨0,by omega,rfl⟩
   have WH: ∀k,∀y∈O,it s k y∈O:=fun k=>y3 hsO k
   have WI: ∀i,W (it s i x)=W x:=by
    intro i
    induction i with
    |zero=>rfl
    |succ i ihi=>rw[AL,hW _ (y3 hs i x hx),ihi]
   have SF:lsum O W=0:=by
    rw[←hOd,iO,bc (g:=fun _=>W x) (fun i _=>WI i),jg,bh,hR,az]
   have hpO:(X.filter (fun y=>decide (y∈O))).Perm O:=by
    apply cX (cE _ hn) hO
    intro y
    simp only[bg,aG]
    exact⟨fun h=>h.2,fun h=>⟨hOX y h,h⟩⟩
   rw[u5 X (fun y=>decide (y∈O)) W,sy hpO,SF,gq]
   rw[u5 (X.filter (fun x=>decide (s x=x))) (fun y=>decide (y∈O)) W]
   have O4:(X.filter (fun x=>decide (s x=x))).filter (fun y=>decide (y∈O))=[]:=by
    rw[List.filter_eq_nil_iff]
    intro y hy
    simp only[bg,aG]at hy⊢
    intro hyO
    obtain⟨i,hi,rfl⟩:=(FH y).1 hyO
    apply df
    have h4:it s (p-i+1) (it s i x)=it s (p-i) (it s i x):=by
     rw[jP];exact ba _ hy.2
    rw[←jP,←jP,show p-i+1+i=1+p by omega,show p-i+i=p by omega,jP,RT x hx]at h4
    exact h4
   rw[O4,fL,gq,pZ]
   have SG:X.filter (fun a=>(!decide (a∈O))&&decide (s a=a))=(X.filter (fun a=>!decide (a∈O))).filter (fun a=>decide (s a=a)):=by
    rw[pZ]
    congr 1;funext a;rw[Bool.and_comm]
   rw[SG]
   have hxO:x∈O:=(FH x).2 ⟨0,by omega,rfl⟩
   apply ih
   ·have h1:(X.filter (fun y=>decide (y∈O))).length+(X.filter (fun a=>!decide (a∈O))).length=X.length:=by
     have:=List.length_eq_countP_add_countP (fun y=>decide (y∈O)) (l:=X)
     rw[ou,ou]at this
     simp only[fz,decide_eq_false_iff_not]at this
     rw[this]
     congr 2
     congr 1;funext a;simp
    have h2:0<(X.filter (fun y=>decide (y∈O))).length:=
     dA (bg.2 ⟨hx,by simpa using hxO⟩)
    omega
   ·exact cE _ hn
   ·intro y hy
    simp only[bg,Bool.not_eq_true',decide_eq_false_iff_not]at hy⊢
    refine⟨hs y hy.1,fun h=>hy.2 ?_⟩
    have h5:=WH (p-1) _ h
    have h6:it s (p-1) (s y)=it s p y:=by
     show it s (p-1+1) y=_
     rw[show p-1+1=p by omega]
    rw[h6,RT y hy.1]at h5
    exact h5
   ·intro y hy;exact RT y (bg.1 hy).1
   ·intro y hy;exact hW y (bg.1 hy).1
end LI
end Ch
end
section
namespace Ch
open Lean.Grind (Semiring Ring CommRing CommSemiring)
section tuples
variable{α:Type}
def tuples:Nat→List α→List (List α)
 |0,_=>[[]]
 |k+1,S=>S.flatMap fun a=>(tuples k S).map (a:: ·)
theorem eG{k:Nat}{S:List α}{l:List α}:l∈tuples k S↔l.length=k∧∀a∈l,a∈S:=by
 induction k generalizing l with
 |zero=>
  simp only[tuples,aQ]
  constructor
  ·rintro rfl;simp
  ·intro h;exact kq.1 h.1
 |succ k ih=>
  simp only[tuples,dZ,ay]
  constructor
  ·rintro⟨a,ha,m,hm,rfl⟩
   have:=ih.1 hm
   refine⟨by simp[this.1],?_⟩
   intro b hb
   rcases aH.1 hb with rfl|hb
   ·exact ha
   ·exact this.2 b hb
  ·rintro⟨hl,hm⟩
   cases l with
   |nil=>simp at hl
   |cons a m=>exact⟨a,hm a (by simp),m,ih.2 ⟨by simpa using hl,fun b hb=>hm b (by simp[hb])⟩,rfl⟩
theorem kb{S:List α}(h:S.Nodup)(k:Nat):(tuples k S).Nodup:=by
 induction k with
 |zero=>simp[tuples]
 |succ k ih=>
  apply lK h
  ·intro a _
   exact cR ih (by intro x _ y _ e;exact(List.cons.inj e).2)
  ·intro a _ b _ x hx hy
   obtain⟨_,_,rfl⟩:=ay.1 hx
   obtain⟨_,_,e⟩:=ay.1 hy
   exact(List.cons.inj e).1.symm
theorem p8(S:List α)(k:Nat):(tuples k S).length=S.length^k:=by
 induction k with
 |zero=>simp[tuples]
 |succ k ih=>
  rw[tuples,jG (c:=S.length^k) (by intro a _;rw[ae,ih]),eK,pf]
def HD:List α→List α
 |[]=>[]
 |a::l=>l++[a]
theorem O5(l m:List α):it HD l.length (l++m)=m++l:=by
 induction l generalizing m with
 |nil=>simp[it]
 |cons a l ih=>
  show it HD l.length (HD (a::(l++m)))=_
  show it HD l.length ((l++m)++[a])=_
  rw[k7,ih];simp
theorem FI(a:α)(l:List α)(h:l++[a]=a::l):l=List.replicate l.length a:=by
 induction l with
 |nil=>rfl
 |cons b l ih=>
  simp only[List.cons_append,List.cons.injEq]at h
  obtain⟨rfl,h2⟩:=h
  rw[aC,gk,←ih h2]
theorem xA(k:Nat)(a:α):HD (List.replicate k a)=List.replicate k a:=by
 cases k with
 |zero=>rfl
 |succ k=>rw[gk,HD,←List.replicate_succ',gk]
theorem FJ{R:Type} [Semiring R]{p:Nat}(hp:gR p)(hR:(nc p:R)=0){S:List α}(hS:S.Nodup)(W:List α→R)
  (hW: ∀l∈tuples p S,W (HD l)=W l):lsum (tuples p S) W=lsum S (fun a=>W (List.replicate p a)):=by
 classical
 have h2:=hp.1
 have hlen: ∀l∈tuples p S,l.length=p:=fun l hl=>(eG.1 hl).1
 rw[LJ hp hR HD W _ _ (aq _) (kb hS p)]
 ·rw[←iO S (fun a=>List.replicate p a) W]
  apply sy
  apply cX (cE _ (kb hS p))
  ·apply cR hS
   intro a _ b _ e
   have:(List.replicate p a).head?=(List.replicate p b).head?:=by rw[e]
   cases p with
   |zero=>omega
   |succ p=>simpa[gk]using this
  ·intro l
   simp only[bg,aG,ay,eG]
   constructor
   ·rintro⟨⟨hl,hm⟩,hr⟩
    cases l with
    |nil=>simp at hl;omega
    |cons a l=>
     refine⟨a,hm a (by simp),?_⟩
     have:=FI a l hr
     rw[←hl,aC,gk,←this]
   ·rintro⟨a,ha,rfl⟩
    refine⟨⟨by simp,?_⟩,xA p a⟩
    intro b hb
    rw[(List.mem_replicate.1 hb).2];exact ha
 ·intro l hl
  have:=eG.1 hl
  rw[eG]
  cases l with
  |nil=>exact this
  |cons a l=>
   refine⟨by simpa[HD]using this.1,?_⟩
   intro b hb
   apply this.2
   simp only[HD,bP,aQ]at hb
   simp only[aH]
   exact hb.symm
 ·intro l hl
  have h1:=hlen l hl
  have h3:=O5 l []
  rw[h1]at h3
  simpa using h3
 ·exact hW
end tuples
section power
variable{α:Type}{A:Type} [Semiring A]
def pw(x:A):Nat→A
 |0=>1
 |k+1=>x*pw x k
theorem Co(x:A):pw x 1=x:=bL x
theorem lL(x:A)(a b:Nat):pw x (a+b)=pw x a*pw x b:=by
 induction a with
 |zero=>rw[Nat.zero_add,pw,aP]
 |succ a ih=>rw[Nat.succ_add,pw,ih,pw,aa]
theorem gT(x:A)(k:Nat):pw x (k+1)=pw x k*x:=by
 rw[lL,Co]
theorem u6(x y:A)(h:x*y=y*x)(k:Nat):pw x k*y=y*pw x k:=by
 induction k with
 |zero=>rw[pw,aP,bL]
 |succ k ih=>rw[pw,aa,ih,←aa,h,aa]
theorem pq(x y:A)(h:x*y=y*x)(k:Nat):pw (x*y) k=pw x k*pw y k:=by
 induction k with
 |zero=>simp only[pw];rw[aP]
 |succ k ih=>
  have h1:=u6 x y h k
  rw[pw,ih,pw,pw,aa x y,←aa y (pw x k) (pw y k),←h1,aa (pw x k),←aa x]
theorem O6(x:A)(a b:Nat):pw x (a*b)=pw (pw x a) b:=by
 induction b with
 |zero=>rfl
 |succ b ih=>rw[pd,Nat.add_comm,lL,ih,pw]
def iz(v:α→A):List α→A
 |[]=>1
 |a::l=>v a*iz v l
theorem y4(v:α→A)(l m:List α):iz v (l++m)=iz v l*iz v m:=by
 induction l with
 |nil=>simp only[List.nil_append,iz];rw[aP]
 |cons a l ih=>simp only[List.cons_append,iz,ih,aa]
theorem uk(v:α→A)(k:Nat)(a:α):iz v (List.replicate k a)=pw (v a) k:=by
 induction k with
 |zero=>rfl
 |succ k ih=>rw[gk,iz,ih,pw]
theorem LK(S:List α)(v:α→A)(k:Nat):pw (lsum S v) k=lsum (tuples k S) (iz v):=by
 induction k with
 |zero=>simp only[pw,tuples,cz,fL,iz];rw[bw]
 |succ k ih=>
  rw[pw,ih,tuples,yZ,cG]
  apply bc
  intro a _
  rw[iO,bU]
  rfl
theorem O7{R:Type} [Semiring R]{p:Nat}(hp:gR p)(hR:(nc p:R)=0)(T:A→R)(h0:T 0=0)
  (ha: ∀x y,T (x+y)=T x+T y){S:List α}(hS:S.Nodup)(v:α→A)
  (hc: ∀a∈S,∀l,(∀b∈l,b∈S)→T (iz v l*v a)=T (v a*iz v l)):
  T (pw (lsum S v) p)=lsum S (fun a=>T (pw (v a) p)):=by
 rw[LK,qT T h0 ha,FJ hp hR hS]
 ·apply bc
  intro a _
  rw[uk]
 ·intro l hl
  have hm:=eG.1 hl
  cases l with
  |nil=>rfl
  |cons a l=>
   rw[HD,y4]
   simp only[iz]
   rw[bL]
   exact hc a (hm.2 a (by simp)) l (fun b hb=>hm.2 b (by simp[hb]))
theorem xB(v:α→A)(y:A)(l:List α)(h: ∀b∈l,v b*y=y*v b):iz v l*y=y*iz v l:=by
 induction l with
 |nil=>simp only[iz];rw[aP,bL]
 |cons a l ih=>
  have h1:=ih (fun b hb=>h b (by simp[hb]))
  have h2:=h a (by simp)
  simp only[iz]
  rw[aa,h1,←aa,h2,aa]
theorem xY{p:Nat}(hp:gR p)(hA:(nc p:A)=0)(x y:A)(h:x*y=y*x):pw (x+y) p=pw x p+pw y p:=by
 have h1:=O7 hp hA (fun z:A=>z) rfl (fun _ _=>rfl) (S:=[true,false]) (by decide) (fun b=>if b then x else y) (by
  intro a _ l _
  apply xB
  intro b _
  cases a<;>cases b<;>simp[h])
 simp only[cz,fL,fD]at h1
 simpa[bw]using h1
theorem O8{p:Nat}(hp:gR p)(hA:(nc p:A)=0)(c:Nat):pw (nc c:A) p=nc c:=by
 induction c with
 |zero=>
  obtain⟨k,rfl⟩: ∃k,p=k+1:=⟨p-1,by have:=hp.1;omega⟩
  rw[dU,pw,az]
 |succ c ih=>
  rw[eL,xY hp hA _ _ (qS c 1),ih]
  congr 1
  have: ∀k,pw (1:A) k=1:=by
   intro k
   induction k with
   |zero=>rfl
   |succ k ih=>rw[pw,ih,aP]
  exact this p
end power
end Ch
end
section
namespace Ch
open Lean.Grind (Semiring Ring CommRing CommSemiring)
section fin
variable{p:Nat} [NeZero p]
theorem eH(k:Nat):(nc k:Fin p).val=k % p:=by
 induction k with
 |zero=>exact(Nat.zero_mod p).symm
 |succ k ih=>
  rw[eL]
  show((nc k:Fin p).val+1 % p) % p=_
  rw[ih];simp[Nat.add_mod]
theorem gO(a:Fin p):nc a.val=a:=by
 apply du;rw[eH,aM a.isLt]
theorem LL:(nc p:Fin p)=0:=by
 apply du;rw[eH,Nat.mod_self];rfl
theorem kc:(0:Fin p).val=0:=rfl
theorem eD{a:Fin p}:a≠0↔a.val≠0:=by
 constructor
 ·intro h h2;exact h (du h2)
 ·intro h h2;exact h (by rw[h2];rfl)
theorem mK(hp:gR p){a b:Fin p}(ha:a≠0)(hb:b≠0):a*b≠0:=by
 intro h
 have h1:(a*b).val=0:=by rw[h];rfl
 rw[Fin.val_mul]at h1
 rw[eD]at ha hb
 rcases hp.dvd_mul (dB h1)with h2|h2
 ·have:=jZ (by omega) h2;have:=a.isLt;omega
 ·have:=jZ (by omega) h2;have:=b.isLt;omega
theorem dH(hp:gR p){a b c:Fin p}(ha:a≠0)(h:a*b=a*c):b=c:=by
 apply ai
 intro df
 have h1:b-c≠0:=fun e=>df (by grind)
 exact mK hp ha h1 (by grind)
theorem mL(hp:gR p)(a:Fin p)(ha:a≠0): ∃b:Fin p,a*b=1:=by
 apply ai
 intro kd
 have hn:((List.finRange p).map (fun b=>a*b)).Nodup:=by
  apply cR (bA p)
  intro b _ c _ e
  exact dH hp ha e
 have h1:((1:Fin p)::(List.finRange p).map (fun b=>a*b)).Nodup:=by
  rw[bV]
  refine⟨?_,hn⟩
  intro h
  obtain⟨b,_,hb⟩:=ay.1 h
  exact kd ⟨b,hb⟩
 have h2:=a8 h1 (m:=List.finRange p) (fun x _=>ck x)
 simp at h2
 omega
end fin
section iota
variable{p:Nat} [NeZero p]{A:Type} [Ring A]
theorem O9(hA:(nc p:A)=0)(k:Nat):(nc (k % p):A)=nc k:=by
 have h:(nc (k % p+p*(k / p)):A)=nc k:=by rw[Nat.mod_add_div]
 rw[←h,u4,cf,hA,az,bw]
def io(a:Fin p):A:=nc a.val
theorem nT(hA:(nc p:A)=0)(k:Nat):(io (nc k:Fin p):A)=nc k:=by
 rw[io,eH,O9 hA]
theorem px(hA:(nc p:A)=0):(io (0:Fin p):A)=0:=by
 rw[←dU,nT hA,dU]
theorem jh(hA:(nc p:A)=0):(io (1:Fin p):A)=1:=by
 rw[←gN,nT hA,gN]
theorem y6(hA:(nc p:A)=0)(a b:Fin p):(io (a+b):A)=io a+io b:=by
 rw[←gO a,←gO b,←u4,nT hA,nT hA,nT hA,u4]
theorem ji(hA:(nc p:A)=0)(a b:Fin p):(io (a*b):A)=io a*io b:=by
 rw[←gO a,←gO b,←cf,nT hA,nT hA,nT hA,cf]
theorem dv(a:Fin p)(x:A):io a*x=x*io a:=qS _ x
theorem HE(hA:(nc p:A)=0)(a:Fin p):(io (-a):A)= -io a:=by
 have h:(io (-a):A)+io a=0:=by rw[←y6 hA,show-a+a=0 by grind,px hA]
 grind
theorem HF(hA:(nc p:A)=0)(a b:Fin p):(io (a-b):A)=io a-io b:=by
 rw[show a-b=a+ -b by grind,y6 hA,HE hA];grind
theorem pz(hp:gR p)(hA:(nc p:A)=0){a:Fin p}(ha:a≠0){x:A}(h:io a*x=0):x=0:=by
 obtain⟨b,hb⟩:=mL hp a ha
 have h1:io b*(io a*x)=x:=by
  rw[←Semiring.mul_assoc,←ji hA,show b*a=1 by grind,jh hA,Semiring.one_mul]
 rw[←h1,h,aR]
theorem oB(hp:gR p)(hA:(nc p:A)=0){a b:Fin p}{x:A}(hx:x≠0)(h:io a*x=io b*x):a=b:=by
 apply ai
 intro df
 apply hx
 apply pz hp hA (a:=a-b) (fun e=>df (by grind))
 rw[HF hA,show(io a-io b)*x=io a*x-io b*x by grind,h]
 grind
theorem D8(hp:gR p)(hA:(nc p:A)=0)(a:Fin p):pw (io a:A) p=io a:=O8 hp hA _
end iota
section finite
variable{A:Type} [Ring A]
theorem HG{U:List A}(hU: ∀x,x∈U)(x:A): ∃N,1≤N∧pw x N*pw x N=pw x N:=by
 classical
 have⟨i,j,oh,e⟩: ∃i j,i<j∧pw x i=pw x j:=by
  apply ai
  intro kd
  have hn:((List.range (U.length+1)).map (fun i=>pw x i)).Nodup:=by
   apply cR da
   intro i _ j _ e
   rcases iK i j with h|h|h
   ·exact absurd ⟨i,j,h,e⟩ kd
   ·exact h
   ·exact absurd ⟨j,i,h,e.symm⟩ kd
  have:=a8 hn (m:=U) (fun y _=>hU y)
  simp at this
  omega
 have h1: ∀m,i≤m→pw x (m+(j-i))=pw x m:=by
  intro m hm
  rw[show m+(j-i)=(m-i)+j by omega,lL,←e,←lL,show m-i+i=m by omega]
 have h2: ∀c m,i≤m→pw x (m+(j-i)*c)=pw x m:=by
  intro c
  induction c with
  |zero=>intro m _;rfl
  |succ c ih=>
   intro m hm
   rw[pd,←Nat.add_assoc,h1 _ (by omega),ih m hm]
 refine⟨(j-i)*(i+1),Nat.mul_pos (by omega) (by omega),?_⟩
 rw[←lL]
 apply h2
 calc i≤1*(i+1):=by omega
  _≤(j-i)*(i+1):=eN _ (by omega)
noncomputable def cA{B:Type}(U:List B)(P:B→Prop):Nat:=(U.filter (fun x=>@decide (P x) (Classical.propDecidable _))).length
theorem bR{B:Type}{U:List B}{P:B→Prop}{x:B}:x∈U.filter (fun x=>@decide (P x) (Classical.propDecidable _))↔x∈U∧P x:=by
 rw[bg,@aG _ (Classical.propDecidable _)]
theorem pB{B:Type}{U:List B}(hn:U.Nodup){P Q:B→Prop}(h: ∀x,P x→Q x){a:B}(ha:a∈U)(hq:Q a)(hp: ¬P a):cA U P<cA U Q:=by
 classical
 have h1:(a::U.filter (fun x=>@decide (P x) (Classical.propDecidable _))).Nodup:=by
  rw[bV]
  exact⟨fun hm=>hp (bR.1 hm).2,cE _ hn⟩
 exact a8 h1 (m:=U.filter (fun x=>@decide (Q x) (Classical.propDecidable _))) (by
  intro x hx
  rcases aH.1 hx with rfl|hx
  ·exact bR.2 ⟨ha,hq⟩
  ·have:=bR.1 hx
   exact bR.2 ⟨this.1,h x this.2⟩)
theorem u7{B:Type}{U:List B}{P:B→Prop}{a:B}(ha:a∈U)(h:P a):0<cA U P:=
 dA (bR.2 ⟨ha,h⟩)
structure Prim(S:A→Prop)(f:A):Prop where
 mem:S f
 idem:f*f=f
 ne:f≠0
 least: ∀h,S h→h*h=h→f*h=h→h*f=h→h=0∨h=f
structure Parts(S:A→Prop)(e:A)(fs:List A):Prop where
 prim: ∀f∈fs,Prim S f
 under: ∀f∈fs,e*f=f∧f*e=f
 um:fs.Pairwise (fun a b=>a*b=0∧b*a=0)
 sum:lsum fs (fun f=>f)=e
theorem parts{U:List A}(hU: ∀x,x∈U)(hUn:U.Nodup)(S:A→Prop)(hS: ∀a b,S a→S b→S (a-b)):
  ∀(k:Nat)(e:A),S e→e*e=e→cA U (fun h=>h*h=h∧e*h=h∧h*e=h)≤k→∃fs,Parts S e fs:=by
 classical
 intro k
 induction k with
 |zero=>
  intro e he hi hk
  have:=u7 (P:=fun h=>h*h=h∧e*h=h∧h*e=h) (hU e) ⟨hi,hi,hi⟩
  omega
 |succ k ih=>
  intro e he hi hk
  by_cases h0:e=0
  ·refine⟨[],⟨by simp,by simp,List.Pairwise.nil,?_⟩⟩
   rw[fL,h0]
  by_cases hp: ∀h,S h→h*h=h→e*h=h→h*e=h→h=0∨h=e
  ·refine⟨[e],⟨?_,?_,by simp,?_⟩⟩
   ·intro f hf
    rw[aQ]at hf
    subst hf
    exact⟨he,hi,h0,hp⟩
   ·intro f hf
    rw[aQ]at hf
    subst hf
    exact⟨hi,hi⟩
   ·simp[bw]
  ·have⟨h,hSh,SH,Pc,SI,WJ,WK⟩: ∃h,S h∧h*h=h∧e*h=h∧h*e=h∧h≠0∧h≠e:=by
    apply ai
    intro kd
    apply hp
    intro h h1 h2 h3 h4
    apply ai
    intro h5
    exact kd ⟨h,h1,h2,h3,h4,fun e=>h5 (.inl e),fun e=>h5 (.inr e)⟩
   have D9: ∀h',h'*h'=h'→e*h'=h'→h'*e=h'→h'≠e→
     cA U (fun x=>x*x=x∧h'*x=x∧x*h'=x)≤k:=by
    intro h' pU h1 h2 df
    have eI:cA U (fun x=>x*x=x∧h'*x=x∧x*h'=x)<cA U (fun x=>x*x=x∧e*x=x∧x*e=x):=by
     apply pB hUn ?_ (hU e) ⟨hi,hi,hi⟩
     ·rintro⟨_,b,_⟩
      exact df (by rw[←h2,b])
     ·rintro x ⟨a,b,c⟩
      refine⟨a,?_,?_⟩
      ·rw[←b,←aa,h1]
      ·rw[←c,aa,h2]
    omega
   obtain⟨fs,P⟩:=ih h hSh SH (D9 h SH Pc SI WK)
   have hd:(e-h)*(e-h)=e-h:=by
    rw[show(e-h)*(e-h)=e*e-e*h-h*e+h*h by grind,hi,Pc,SI,SH];grind
   have VN:e*(e-h)=e-h:=by rw[show e*(e-h)=e*e-e*h by grind,hi,Pc]
   have hde:(e-h)*e=e-h:=by rw[show(e-h)*e=e*e-h*e by grind,hi,SI]
   obtain⟨gs,Q⟩:=ih (e-h) (hS _ _ he hSh) hd (D9 (e-h) hd VN hde (by intro h';apply WJ;grind))
   refine⟨fs++gs,⟨?_,?_,?_,?_⟩⟩
   ·intro f hf
    rcases bP.1 hf with hf|hf
    ·exact P.prim f hf
    ·exact Q.prim f hf
   ·intro f hf
    rcases bP.1 hf with hf|hf
    ·have:=P.under f hf
     exact⟨by rw[←this.1,←aa,Pc],by rw[←this.2,aa,SI]⟩
    ·have:=Q.under f hf
     exact⟨by rw[←this.1,←aa,VN],by rw[←this.2,aa,hde]⟩
   ·rw[List.pairwise_append]
    refine⟨P.um,Q.um,?_⟩
    intro a ha b hb
    have h1:=P.under a ha
    have h2:=Q.under b hb
    have h3:h*(e-h)=0:=by rw[show h*(e-h)=h*e-h*h by grind,SI,SH];grind
    have h4:(e-h)*h=0:=by rw[show(e-h)*h=e*h-h*h by grind,Pc,SH];grind
    constructor
    ·rw[←h1.2,←h2.1,show a*h*((e-h)*b)=a*(h*(e-h))*b by grind,h3,Semiring.mul_zero,Semiring.zero_mul]
    ·rw[←h1.1,←h2.2,show b*(e-h)*(h*a)=b*((e-h)*h)*a by grind,h4,Semiring.mul_zero,Semiring.zero_mul]
   ·rw[oA,P.sum,Q.sum];grind
end finite
end Ch
end
section
namespace Ch
open Lean.Grind (Semiring Ring CommRing CommSemiring)
section roots
variable{A:Type} [Ring A]
def Ht:Nat→A→(Nat→A)→Prop
 |0,a,h=>∀c,h c=a
 |k+1,a,h=>Ht k (nc (k+1)*a) (fun c=>h (c+1)-h c)
theorem FK(k:Nat): ∀(a:A)(h:Nat→A),Ht k a h→Ht k a (fun c=>h (c+1)):=by
 induction k with
 |zero=>intro a h H c;exact H (c+1)
 |succ k ih=>intro a h H;exact ih _ _ H
theorem LM(k:Nat): ∀(a b:A)(h g:Nat→A),Ht k a h→Ht k b g→Ht k (a-b) (fun c=>h c-g c):=by
 induction k with
 |zero=>intro a b h g H G c;show h c-g c=a-b;rw[H c,G c]
 |succ k ih=>
  intro a b h g H G
  have:=ih _ _ _ _ H G
  have e:(fun c=>h (c+1)-g (c+1)-(h c-g c))=(fun c=>h (c+1)-h c-(g (c+1)-g c)):=by
   funext c;grind
  show Ht k _ (fun c=>h (c+1)-g (c+1)-(h c-g c))
  rw[e,show nc (k+1)*(a-b)=nc (k+1)*a-nc (k+1)*b by grind]
  exact this
theorem LN{f:A}(x:Nat→A)(hx: ∀c,x (c+1)=x c-f)(k:Nat):
  ∀(a:A)(h:Nat→A),Ht k a h→(∀c,f*h c=h c)→Ht (k+1) (-a) (fun c=>x c*h c):=by
 induction k with
 |zero=>
  intro a h H hf c
  show x (c+1)*h (c+1)-x c*h c=nc 1* -a
  have h1:=hf c
  rw[H c]at h1
  rw[hx,H (c+1),H c,gN,show(x c-f)*a-x c*a= -(f*a) by grind,h1,Semiring.one_mul]
 |succ k ih=>
  intro a h H hf
  have h1:=ih _ _ H (by intro c;rw[show f*(h (c+1)-h c)=f*h (c+1)-f*h c by grind,hf,hf])
  have h2:=LM (k+1) _ _ _ _ h1 (FK (k+1) a h H)
  have e:(fun c=>x (c+1)*h (c+1)-x c*h c)=(fun c=>x c*(h (c+1)-h c)-h (c+1)):=by
   funext c
   rw[hx]
   have:=hf (c+1)
   rw[show(x c-f)*h (c+1)-x c*h c=x c*(h (c+1)-h c)-f*h (c+1) by grind,this]
  show Ht (k+1) (nc (k+2)* -a) (fun c=>x (c+1)*h (c+1)-x c*h c)
  rw[e,show(nc (k+2)* -a:A)= -(nc (k+1)*a)-a by rw[eL (k+1)];grind]
  exact h2
def RU:Nat→Nat
 |0=>1
 |k+1=>RU k*(k+1)
theorem HH(k:Nat): ∀(a:A)(h:Nat→A),Ht k a h→(∀c,h c=0)→nc (RU k)*a=0:=by
 induction k with
 |zero=>intro a h H h0;rw[←H 0,h0];exact aR _
 |succ k ih=>
  intro a h H h0
  have:=ih _ _ H (by intro c;rw[h0,h0];grind)
  rw[RU,cf,aa];exact this
theorem AM{p:Nat}(hp:gR p)(k:Nat)(hk:k<p): ¬p∣RU k:=by
 induction k with
 |zero=>intro h;have:=jZ (by decide) h;have:=hp.1;simp[RU]at*;omega
 |succ k ih=>
  intro h
  rcases hp.dvd_mul h with h|h
  ·exact ih (by omega) h
  ·have:=jZ (by omega) h;omega
theorem FL{p:Nat} [NeZero p](hp:gR p)(hA:(nc p:A)=0){k:Nat}(hk: ¬p∣k){x:A}(h:nc k*x=0):x=0:=by
 apply pz hp hA (a:=(nc k:Fin p))
 ·rw[eD,eH]
  intro h0;exact hk (dB h0)
 ·rw[nT hA];exact h
theorem xC{p:Nat} [NeZero p](hp:gR p)(hA:(nc p:A)=0){f y:A}(hf:f*f=f)(Pd:f*y=y)(VO:y*f=y)(df:f≠0):
  ¬ ∀c:Nat,pw (y-nc c*f) (p-1)=f:=by
 intro H
 have hx: ∀c:Nat,y-nc (c+1)*f=(y-nc c*f)-f:=by
  intro c;rw[eL];grind
 have NW: ∀c:Nat,f*(y-nc c*f)=(y-nc c*f):=by
  intro c
  rw[show f*(y-nc c*f)=f*y-f*nc c*f by grind,←qS,Semiring.mul_assoc,hf,Pd]
 have NX: ∀c:Nat,(y-nc c*f)*f=(y-nc c*f):=by
  intro c
  rw[show(y-nc c*f)*f=y*f-nc c*(f*f) by grind,hf,VO]
 have WL: ∀k,∃a:A,(a=f∨a= -f)∧Ht k a (fun c=>f*pw (y-nc c*f) k):=by
  intro k
  induction k with
  |zero=>exact⟨f,.inl rfl,fun c=>by show f*1=f;exact bL f⟩
  |succ k ih=>
   obtain⟨a,ha,P⟩:=ih
   refine⟨-a,?_,?_⟩
   ·rcases ha with rfl|rfl
    ·exact .inr rfl
    ·left;grind
   ·have:=LN (f:=f) (fun c=>y-nc c*f) hx k a _ P (by intro c;rw[←aa,hf])
    have e:(fun c:Nat=>f*pw (y-nc c*f) (k+1))=(fun c:Nat=>(y-nc c*f)*(f*pw (y-nc c*f) k)):=by
     funext c
     rw[pw,←aa,←aa,NW,NX]
    rw[e];exact this
 obtain⟨a,ha,P⟩:=WL (p-1)
 have h2:=hp.1
 obtain⟨k,hk⟩: ∃k,p-1=k+1:=⟨p-2,by omega⟩
 have e:(fun c:Nat=>f*pw (y-nc c*f) (p-1))=(fun _=>f):=by
  funext c;rw[H c,hf]
 rw[e,hk]at P
 have h3:=HH k _ _ P (by intro c;grind)
 rw[←aa,←cf]at h3
 have h4:a=0:=FL hp hA (k:=RU k*(k+1)) (AM hp (k+1) (by omega)) h3
 apply df
 rcases ha with rfl|rfl
 ·exact h4
 ·grind
theorem tS{p:Nat} [NeZero p](hp:gR p)(hA:(nc p:A)=0){S:A→Prop}{f y:A}(P:Prim S f)(Pd:f*y=y)(VO:y*f=y)
  (hS: ∀c:Nat,S (pw (y-nc c*f) (p-1)))(SJ: ∀c:Nat,pw (y-nc c*f) p=y-nc c*f): ∃c:Nat,y=nc c*f:=by
 apply ai
 intro kd
 apply xC hp hA P.idem Pd VO P.ne
 intro c
 have h2:=hp.1
 have Pg:y-nc c*f≠0:=fun e=>kd ⟨c,by grind⟩
 have NW:f*(y-nc c*f)=(y-nc c*f):=by
  rw[show f*(y-nc c*f)=f*y-f*nc c*f by grind,←qS,Semiring.mul_assoc,P.idem,Pd]
 have NX:(y-nc c*f)*f=(y-nc c*f):=by
  rw[show(y-nc c*f)*f=y*f-nc c*(f*f) by grind,P.idem,VO]
 have VP:=SJ c
 have hSx:=hS c
 generalize y-nc c*f=x at*
 obtain⟨k,hk⟩: ∃k,p-1=k+1:=⟨p-2,by omega⟩
 have p9:pw x (p-1)*pw x (p-1)=pw x (p-1):=by
  rw[←lL,show p-1+(p-1)=k+p by omega,lL,VP,hk,gT]
 rcases P.least _ hSx p9 (by rw[hk,pw,←aa,NW]) (by rw[hk,gT,aa,NX])with h|h
 ·exfalso
  apply Pg
  rw[←VP,show p=(p-1)+1 by omega,lL,h,az]
 ·exact h
end roots
structure Su(p:Nat) [NeZero p](A G:Type) [Ring A] where
 hp:gR p
 pA:(nc p:A)=0
 U:List A
 ku: ∀x,x∈U
 eP:U.Nodup
 t:A→Fin p
 AN: ∀x y,t (x+y)=t x+t y
 mM: ∀x y,t (x*y)=t (y*x)
 gs:List G
 AO:gs.Nodup
 dl:G→A
 di:G→A
 NY: ∀g,di g*dl g=1
 SK: ∀g,dl g*di g=1
 Pj: ∀g,pw (dl g) p=dl g
 expand: ∀x:A,x=lsum gs (fun g=>io (t (x*di g))*dl g)
 Ea: ∀x:A,x=lsum gs (fun g=>io (t (x*dl g))*di g)
 AQ: ∀x z:A,lsum gs (fun g=>dl g*x*di g)*z=z*lsum gs (fun g=>dl g*x*di g)
 pC: ∀z:A,(∀x:A,z*x=x*z)→pw z p=z
 Pk:(nc gs.length:Fin p)≠0
 qK:A→Fin p
 qU: ∀x y,qK (x+y)=qK x+qK y
 y8: ∀x y,qK (x*y)=qK x*qK y
 y9:qK 1=1
 lg:A
 HI:lg≠0
 qV: ∀x,x*lg=io (qK x)*lg
 jH: ∀x,lg*x=x*lg
 NZ:U.length=p^gs.length
namespace Su
variable{p:Nat} [NeZero p]{A G:Type} [Ring A](s:Su p A G)
theorem u9:s.t 0=0:=by
 have:=s.AN 0 0
 rw[bw]at this
 grind
theorem WM(k:Nat)(x:A):s.t (nc k*x)=nc k*s.t x:=by
 induction k with
 |zero=>rw[dU,dU,az,az,s.u9]
 |succ k ih=>rw[eL,eL,bX,bX,s.AN,ih,aP,aP]
theorem SM(a:Fin p)(x:A):s.t (io a*x)=a*s.t x:=by rw[io,s.WM,gO]
theorem HJ{α:Type}(l:List α)(f:α→A):s.t (lsum l f)=lsum l (fun a=>s.t (f a)):=qT s.t s.u9 s.AN l f
theorem Pl{x:A}(hx:x≠0): ∃g,s.t (x*s.di g)≠0:=by
 apply ai
 intro kd
 apply hx
 rw[s.expand x,←fo (R:=A) s.gs]
 apply bc
 intro g _
 have:s.t (x*s.di g)=0:=ai (fun h=>kd ⟨g,h⟩)
 rw[this,px s.pA,az]
theorem Pn(z:A):s.t (pw z p)=s.t z:=by
 have h1:=O7 s.hp LL s.t s.u9 s.AN s.AO (fun g=>io (s.t (z*s.di g))*s.dl g) (fun a _ l _=>s.mM _ _)
 rw[←s.expand z]at h1
 rw[h1]
 conv=>rhs;rw[s.expand z,s.HJ]
 apply bc
 intro g _
 rw[pq _ _ (dv _ _),D8 s.hp s.pA,s.Pj]
theorem FN(z:A)(k:Nat):s.t (pw z (p^k))=s.t z:=by
 induction k with
 |zero=>rw[Nat.pow_zero,Co]
 |succ k ih=>rw[eK,O6,s.Pn,ih]
theorem SN{z:A}{N:Nat}(h:pw z N=0):s.t z=0:=by
 rw[←s.FN z N]
 have h2:=s.hp.1
 have:N<p^N:=Nat.lt_pow_self (by omega)
 rw[show p^N=(p^N-N)+N by omega,lL,h,aR,s.u9]
def aT(z:A):Prop:=∀x,z*x=x*z
def All(_:A):Prop:=True
theorem oC{a b:A}(ha:aT a)(hb:aT b):aT (a-b):=by
 intro x
 rw[show(a-b)*x=a*x-b*x by grind,ha,hb];grind
theorem iA{a b:A}(ha:aT a)(hb:aT b):aT (a+b):=by
 intro x
 rw[show(a+b)*x=a*x+b*x by grind,ha,hb];grind
theorem dP{a b:A}(ha:aT a)(hb:aT b):aT (a*b):=by
 intro x
 rw[aa,hb,←aa,ha,aa]
theorem va(k:Nat):aT (nc k:A):=fun x=>qS k x
theorem f7(a:Fin p):aT (io a:A):=fun x=>dv a x
theorem vb{a:A}(ha:aT a)(k:Nat):aT (pw a k):=fun x=>u6 a x (ha x) k
include s in
theorem f9{e:A}(P:Prim (aT (A:=A)) e){z:A}(hz:aT z): ∃c:Fin p,z*e=io c*e:=by
 have hc: ∀c:Nat,aT (z*e-nc c*e):=fun c=>oC (dP hz P.mem) (dP (va c) P.mem)
 obtain⟨c,h⟩:=tS s.hp s.pA P (y:=z*e) (by rw[←aa,←hz,aa,P.idem]) (by rw[aa,P.idem])
  (fun c=>vb (hc c) _) (fun c=>s.pC _ (hc c))
 exact⟨nc c,by rw[nT s.pA];exact h⟩
include s in
theorem sA{f:A}(P:Prim (All (A:=A)) f){x:A}(hx:x≠0)(NW:f*x=x)(NX:x*f=x):
  ∃y,f*y=y∧y*f=y∧x*y=f:=by
 obtain⟨g,hg⟩:=s.Pl hx
 have hw:s.t (x*(f*s.di g*f))≠0:=by
  rw[show x*(f*s.di g*f)=(x*f*s.di g)*f by grind,s.mM,←Semiring.mul_assoc,NX,NW];exact hg
 have hfw:f*(f*s.di g*f)=f*s.di g*f:=by
  rw[←aa,←aa,P.idem]
 have WO:(f*s.di g*f)*f=f*s.di g*f:=by
  rw[aa,P.idem]
 generalize f*s.di g*f=w at*
 obtain⟨N,hN,p9⟩:=HG s.ku (x*w)
 obtain⟨k,rfl⟩: ∃k,N=k+1:=⟨N-1,by omega⟩
 have h1:f*pw (x*w) (k+1)=pw (x*w) (k+1):=by rw[pw,←aa,←aa,NW]
 have h2:pw (x*w) (k+1)*f=pw (x*w) (k+1):=by rw[gT,aa,aa,WO]
 rcases P.least _ trivial p9 h1 h2 with h|h
 ·exact absurd (s.SN h) hw
 ·refine⟨w*pw (x*w) k*f,?_,?_,?_⟩
  ·rw[←aa,←aa,hfw]
  ·rw[aa,P.idem]
  ·rw[←aa,←aa,show x*w*pw (x*w) k=pw (x*w) (k+1)from rfl,h,P.idem]
include s in
theorem both_inv{f:A}(P:Prim (All (A:=A)) f){x:A}(hx:x≠0)(NW:f*x=x)(NX:x*f=x):
  ∃y,f*y=y∧y*f=y∧x*y=f∧y*x=f:=by
 obtain⟨y,h1,h2,h3⟩:=s.sA P hx NW NX
 have hy:y≠0:=by
  intro e
  apply P.ne
  rw[←h3,e,aR]
 obtain⟨z,h4,h5,h6⟩:=s.sA P hy h1 h2
 refine⟨y,h1,h2,h3,?_⟩
 have:x=z:=by
  rw[←NX,←h6,←aa,h3,h4]
 rw[this];exact h6
def za(x:A):A:=lsum s.gs (fun g=>s.dl g*x*s.di g)
theorem lh(x:A):aT (s.za x):=fun z=>s.AQ x z
theorem SO(x:A):s.t (s.za x)=nc s.gs.length*s.t x:=by
 rw[za,s.HJ,←jg]
 apply bc
 intro g _
 rw[s.mM,←aa,s.NY,aP]
theorem LP{z:A}(hz:aT z)(x:A):s.za (z*x)=z*s.za x:=by
 rw[za,za,bU]
 apply bc
 intro g _
 rw[←aa (s.dl g) z x,←hz (s.dl g),aa,aa,aa]
theorem qf{e:A}(P:Prim (aT (A:=A)) e){x:A}(hx:e*x=x): ∃c:Fin p,s.za x=io c*e∧c*s.t e=nc s.gs.length*s.t x:=by
 obtain⟨c,hc⟩:=s.f9 P (s.lh x)
 have h1:s.za x=s.za x*e:=by
  rw[s.lh x e,←s.LP P.mem,hx]
 refine⟨c,by rw[←hc,←h1],?_⟩
 rw[←s.SM,←hc,←h1,s.SO]
end Su
end Ch
end
section
namespace Ch
open Lean.Grind (Semiring Ring CommRing CommSemiring)
namespace Su
variable{p:Nat} [NeZero p]{A G:Type} [Ring A](s:Su p A G)
theorem Po{α:Type}{l:List α}{f:α→A}(h:lsum l f≠0): ∃a∈l,f a≠0:=by
 apply ai
 intro kd
 apply h
 rw[←fo (R:=A) l]
 apply bc
 intro a ha
 exact ai (fun h2=>kd ⟨a,ha,h2⟩)
include s in
theorem N0{c:Fin p}(hc:c≠0){f:A}(hf:f≠0):(io c:A)*f≠0:=fun h=>hf (pz s.hp s.pA hc h)
theorem SQ(a b c d:A):a*(b*c)*d=a*b*(c*d):=by grind
theorem HK{e:A}(P:Prim (aT (A:=A)) e){f:A}(hf:f≠0)(FO:e*f=f):
  ∃(y:A)(c:Fin p),c≠0∧s.za (f*y)=io c*e:=by
 obtain⟨g,hg⟩:=s.Pl hf
 obtain⟨c,h1,h2⟩:=s.qf P (x:=f*s.di g) (by rw[←aa,FO])
 refine⟨s.di g,c,?_,h1⟩
 rintro rfl
 rw[az]at h2
 exact mK s.hp s.Pk hg h2.symm
include s in
theorem link{e:A}(P:Prim (aT (A:=A)) e){f h:A}(Pf:Prim (All (A:=A)) f)(FO:e*f=f)(Ph:Prim (All (A:=A)) h)(Pc:e*h=h):
  ∃u v,f*u=u∧u*h=u∧h*v=v∧v*f=v∧u*v=f∧v*u=h:=by
 obtain⟨y,c,hc,WQ⟩:=s.HK P Ph.ne Pc
 have h1:f*s.za (h*y)≠0:=by
  rw[WQ,←aa,←dv,aa,←P.mem,FO]
  exact s.N0 hc Pf.ne
 rw[za,bU]at h1
 obtain⟨g,_,hg⟩:=Po h1
 have hu:f*s.dl g*h≠0:=by
  intro h0
  apply hg
  rw[show f*(s.dl g*(h*y)*s.di g)=(f*s.dl g*h)*y*s.di g by grind,h0,Semiring.zero_mul,Semiring.zero_mul]
 have VQ:f*(f*s.dl g*h)=f*s.dl g*h:=by
  rw[←aa,←aa,Pf.idem]
 have WR:(f*s.dl g*h)*h=f*s.dl g*h:=by
  rw[aa,Ph.idem]
 generalize f*s.dl g*h=u at*
 obtain⟨g1,hg1⟩:=s.Pl hu
 have hw:s.t (u*(h*s.di g1*f))≠0:=by
  rw[show u*(h*s.di g1*f)=(u*h*s.di g1)*f by grind,s.mM,←Semiring.mul_assoc,WR,VQ];exact hg1
 have hhw:h*(h*s.di g1*f)=h*s.di g1*f:=by
  rw[←aa,←aa,Ph.idem]
 have WO:(h*s.di g1*f)*f=h*s.di g1*f:=by
  rw[aa,Pf.idem]
 generalize h*s.di g1*f=w at*
 have huw:u*w≠0:=by
  intro h0;rw[h0,s.u9]at hw;exact hw rfl
 obtain⟨z,h2,h3,h4⟩:=s.sA Pf huw (by rw[←aa,VQ]) (by rw[aa,WO])
 have LQ:u*(w*z)=f:=by rw[←aa,h4]
 refine⟨u,w*z,VQ,WR,by rw[←aa,hhw],by rw[aa,h3],LQ,?_⟩
 have p9:(w*z*u)*(w*z*u)=w*z*u:=by
  rw[show(w*z*u)*(w*z*u)=w*z*(u*(w*z))*u by grind,LQ,Semiring.mul_assoc,VQ]
 rcases Ph.least (w*z*u) trivial p9 (by rw[←aa,←aa,hhw]) (by rw[aa,WR])with h5|h5
 ·exfalso
  apply Pf.ne
  rw[←Pf.idem,←LQ,show u*(w*z)*(u*(w*z))=u*(w*z*u)*(w*z) by grind,h5,Semiring.mul_zero,Semiring.zero_mul]
 ·exact h5
include s in
theorem zb{e:A}(P:Prim (aT (A:=A)) e){f:A}(p9:f*f=f)(hf:f≠0)(FO:e*f=f){k:A}(hfk:f*k=k)(hkf:k*f=k)
  (hk: ∀x,k*(f*x*f)=f*x*f*k): ∃c:Fin p,k=io c*f:=by
 obtain⟨y,c,hc,WQ⟩:=s.HK P hf FO
 obtain⟨b,hb,_⟩:=s.qf P (x:=k*y) (by rw[←hfk,←aa,←aa,FO])
 have VR:f*e=f:=by rw[←P.mem,FO]
 have h1:f*s.za (k*y)*f=k*(f*s.za (f*y)*f):=by
  rw[za,za,bU,bU,cG,cG,bU]
  apply bc
  intro g _
  rw[show f*(s.dl g*(k*y)*s.di g)*f=f*s.dl g*k*(y*s.di g*f) by grind]
  conv=>lhs;rw[←hfk]
  rw[show f*s.dl g*(f*k)*(y*s.di g*f)=(f*s.dl g*f*k)*(y*s.di g*f) by grind,←hk]
  grind
 rw[WQ,hb]at h1
 rw[SQ,SQ,FO,←dv,←dv,aa,aa,p9]at h1
 obtain⟨d,hd⟩:=mL s.hp c hc
 refine⟨d*b,?_⟩
 rw[ji s.pA,Semiring.mul_assoc,h1,←Semiring.mul_assoc k,←dv c k,Semiring.mul_assoc,hkf,←Semiring.mul_assoc,←ji s.pA,show d*c=1 by grind,jh s.pA,Semiring.one_mul]
theorem AR{e:A}(P:Prim (aT (A:=A)) e){f:A}(p9:f*f=f)(hf:f≠0)(FO:e*f=f)
  (Eb: ∀x,∃c:Fin p,f*x*f=io c*f):s.t f≠0∧nc s.gs.length*s.t f*s.t f=s.t e:=by
 have VR:f*e=f:=by rw[←P.mem,FO]
 have key: ∀x,io (s.t f)*(f*x*f)=io (s.t (f*x))*f:=by
  intro x
  obtain⟨c,hc⟩:=Eb x
  have h1:s.t (f*x)=c*s.t f:=by
   rw[←s.SM,←hc,s.mM (f*x) f,←aa,p9]
  rw[hc,h1,←aa,←ji s.pA]
  rw[show s.t f*c=c*s.t f by grind]
 obtain⟨l,hl,oE⟩:=s.qf P FO
 have h1:io (s.t f)*(f*s.za f)=f:=by
  rw[za,bU,bU]
  have h2:lsum s.gs (fun g=>io (s.t f)*(f*(s.dl g*f*s.di g)))=lsum s.gs (fun g=>f*(io (s.t (f*s.dl g))*s.di g)):=by
   apply bc
   intro g _
   rw[show io (s.t f)*(f*(s.dl g*f*s.di g))=(io (s.t f)*(f*s.dl g*f))*s.di g by grind,key,←Semiring.mul_assoc,←dv]
  rw[h2,←bU,←s.Ea f,p9]
 rw[hl,show f*(io l*e)=f*io l*e by grind,←dv,Semiring.mul_assoc,VR,←Semiring.mul_assoc,←ji s.pA]at h1
 have h3:s.t f*l=1:=by
  apply oB s.hp s.pA hf
  rw[h1,jh s.pA,aP]
 constructor
 ·intro h0
  rw[h0,az]at h3
  apply hf
  rw[h0]at h1
  rw[←h1,az,px s.pA,az]
 ·grind
theorem LR{e:A}(P:Prim (aT (A:=A)) e){fs:List A}(Q:Parts (All (A:=A)) e fs){f:A}(hf:f∈fs):s.t e=nc fs.length*s.t f:=by
 rw[←Q.sum,s.HJ,←jg]
 apply bc
 intro h hh
 obtain⟨u,v,_,_,_,_,LQ,SR⟩:=s.link P (Q.prim f hf) (Q.under f hf).1 (Q.prim h hh) (Q.under h hh).1
 rw[←LQ,←SR,s.mM]
theorem degree{e:A}(P:Prim (aT (A:=A)) e){fs:List A}(Q:Parts (All (A:=A)) e fs){f:A}(hf:f∈fs)
  (Eb: ∀x,∃c:Fin p,f*x*f=io c*f):nc (fs.length*fs.length)=nc s.gs.length*s.t e:=by
 have h1:=s.AR P (Q.prim f hf).idem (Q.prim f hf).ne (Q.under f hf).1 Eb
 have h2:=s.LR P Q hf
 have h3:nc s.gs.length*s.t f=nc fs.length:=by
  apply dH s.hp h1.1
  have:=h1.2
  rw[h2]at this
  grind
 rw[h2,cf]
 grind
end Su
end Ch
end
section
namespace Ch
open Lean.Grind (Semiring Ring CommRing CommSemiring)
section SU
variable{B:Type}{U:List B}
theorem gb{P Q:B→Prop}(h: ∀x,P x↔Q x):cA U P=cA U Q:=by
 rw[show P=Q from funext fun x=>propext (h x)]
theorem tT(hU: ∀x,x∈U)(hn:U.Nodup){P Q:B→Prop}(F:B→B)(h1: ∀x,P x→Q (F x))(h2: ∀x y,P x→P y→F x=F y→x=y):
  cA U P≤cA U Q:=by
 classical
 have xD:((U.filter (fun x=>@decide (P x) (Classical.propDecidable _))).map F).Nodup:=by
  apply cR (cE _ hn)
  intro a ha b hb
  exact h2 a b (bR.1 ha).2 (bR.1 hb).2
 have:=a8 xD (m:=U.filter (fun x=>@decide (Q x) (Classical.propDecidable _))) (by
  intro x hx
  obtain⟨a,ha,rfl⟩:=ay.1 hx
  exact bR.2 ⟨hU _,h1 a (bR.1 ha).2⟩)
 rw[ae]at this
 exact this
theorem AS(hU: ∀x,x∈U)(hn:U.Nodup){P Q:B→Prop}(F H:B→B)(h1: ∀x,P x→Q (F x))(h2: ∀x,Q x→P (H x))
  (h3: ∀x,P x→H (F x)=x)(h4: ∀x,Q x→F (H x)=x):cA U P=cA U Q:=by
 apply Nat.le_antisymm
 ·exact tT hU hn F h1 (fun x y hx hy e=>by rw[←h3 x hx,e,h3 y hy])
 ·exact tT hU hn H h2 (fun x y hx hy e=>by rw[←h4 x hx,e,h4 y hy])
theorem l6(hU: ∀x,x∈U)(hn:U.Nodup){P Q R:B→Prop}(m:B→B→B)(h1: ∀x y,P x→Q y→R (m x y))
  (h2: ∀x y x' y',P x→Q y→P x'→Q y'→m x y=m x' y'→x=x'∧y=y')(h3: ∀z,R z→∃x y,P x∧Q y∧z=m x y):
  cA U R=cA U P*cA U Q:=by
 classical
 have hp:(U.filter (fun x=>@decide (R x) (Classical.propDecidable _))).Perm
   ((U.filter (fun x=>@decide (P x) (Classical.propDecidable _))).flatMap fun x=>(U.filter (fun x=>@decide (Q x) (Classical.propDecidable _))).map fun y=>m x y):=by
  apply cX (cE _ hn)
  ·apply lK (cE _ hn)
   ·intro a ha
    apply cR (cE _ hn)
    intro x hx y hy e
    exact(h2 a x a y (bR.1 ha).2 (bR.1 hx).2 (bR.1 ha).2 (bR.1 hy).2 e).2
   ·intro a ha b hb x hx hy
    obtain⟨c,hc,rfl⟩:=ay.1 hx
    obtain⟨d,hd,e⟩:=ay.1 hy
    exact(h2 a c b d (bR.1 ha).2 (bR.1 hc).2 (bR.1 hb).2 (bR.1 hd).2 e.symm).1
  ·intro z
   rw[bR,dZ]
   constructor
   ·rintro⟨_,hz⟩
    obtain⟨x,y,hx,hy,rfl⟩:=h3 z hz
    exact⟨x,bR.2 ⟨hU _,hx⟩,ay.2 ⟨y,bR.2 ⟨hU _,hy⟩,rfl⟩⟩
   ·rintro⟨x,hx,hz⟩
    obtain⟨y,hy,rfl⟩:=ay.1 hz
    exact⟨hU _,h1 x y (bR.1 hx).2 (bR.1 hy).2⟩
 have:=hp.length_eq
 rw[jG (c:=cA U Q) (by intro a _;rw[ae];rfl)]at this
 exact this
theorem qg(P R:B→Prop):cA U P=cA U (fun x=>P x∧R x)+cA U (fun x=>P x∧¬R x):=by
 classical
 unfold cA
 induction U with
 |nil=>rfl
 |cons a l ih=>
  simp only[gF]
  simp only[]at ih
  by_cases h1:P a<;>by_cases h2:R a<;>simp only[h1,h2,decide_true,decide_false,and_self,and_true,true_and,false_and,and_false,not_true,not_false_iff,fD,aC,dW,fb]<;>omega
theorem gu(hU: ∀x,x∈U)(hn:U.Nodup){P:B→Prop}{l:List B}(hl:l.Nodup)(h: ∀x,x∈l↔P x):cA U P=l.length:=by
 classical
 apply List.Perm.length_eq
 apply cX (cE _ hn) hl
 intro x
 rw[bR,h]
 exact⟨fun a=>a.2,fun a=>⟨hU x,a⟩⟩
theorem AU(hU: ∀x,x∈U)(hn:U.Nodup){c:Nat}(r:B→B→Prop): ∀(k:Nat)(N:B→Prop),cA U N≤k→
  (∀y,N y→r y y)→(∀y z,N y→r y z→N z)→(∀y z w,N y→r y z→r y w→r z w)→(∀y,N y→cA U (r y)=c)→c∣cA U N:=by
 intro k
 induction k with
 |zero=>intro N h _ _ _ _;rw[Nat.le_zero.1 h];exact Nat.dvd_zero c
 |succ k ih=>
  intro N hk hr hN ht hc
  by_cases hex: ∃y,N y
  ·obtain⟨y,hy⟩:=hex
   have h1:cA U N=c+cA U (fun x=>N x∧¬r y x):=by
    rw[qg N (r y),←hc y hy]
    congr 1
    apply gb
    intro x
    exact⟨fun h=>h.2,fun h=>⟨hN y x hy h,h⟩⟩
   have h2:0<c:=by rw[←hc y hy];exact u7 (hU y) (hr y hy)
   rw[h1]
   apply Nat.dvd_add (Nat.dvd_refl c)
   apply ih
   ·omega
   ·exact fun z hz=>hr z hz.1
   ·intro z w hz WS
    refine⟨hN z w hz.1 WS,fun h=>hz.2 ?_⟩
    have h3:r z z:=hr z hz.1
    have h4:r w z:=ht z w z hz.1 WS h3
    have h5:r w y:=ht y w y hy h (hr y hy)
    exact ht w y z (hN z w hz.1 WS) h5 h4
   ·exact fun a b d ha=>ht a b d ha.1
   ·exact fun z hz=>hc z hz.1
  ·have:cA U N=0:=by
    apply ai
    intro h0
    have h1:0<(U.filter (fun x=>@decide (N x) (Classical.propDecidable _))).length:=Nat.pos_of_ne_zero h0
    obtain⟨x,hx⟩:=List.exists_mem_of_length_pos h1
    exact hex ⟨x,(bR.1 hx).2⟩
   rw[this];exact Nat.dvd_zero c
end SU
section vec
variable{A:Type} [Ring A]{U:List A}
theorem vec(hU: ∀x,x∈U)(hn:U.Nodup){C V:A→Prop}{f:A}(hf:C f)(hf0:f≠0)
  (Pp: ∀a b,C a→C b→C (a-b))(WT: ∀a b,C a→C b→C (a*b))(WU: ∀a,C a→a≠0→∃b,C b∧b*a=f)
  (V0:V 0)(SV: ∀x y,V x→V y→V (x-y))(WV: ∀a x,C a→V x→V (a*x))(Vf: ∀x,V x→f*x=x):
  ∃b,cA U V=cA U C^b:=by
 classical
 have C0:C 0:=by have:=Pp f f hf hf;rwa [show f-f=0 by grind]at this
 have hC1:1<cA U C:=by
  have h1:cA U (fun x:A=>x=0)<cA U C:=by
   apply pB hn (a:=f) _ (hU f) hf hf0
   rintro x rfl;exact C0
  have h2:0<cA U (fun x:A=>x=0):=u7 (hU 0) rfl
  omega
 have go: ∀(k j:Nat)(W:A→Prop),cA U V-cA U W≤k→(∀x,W x→V x)→W 0→(∀x y,W x→W y→W (x-y))→(∀a x,C a→W x→W (a*x))→
   cA U W=cA U C^j→∃b,cA U V=cA U C^b:=by
  intro k
  induction k with
  |zero=>
   intro j W hk SW W0 HM Pq hj
   by_cases fq: ∀x,V x→W x
   ·exact⟨j,by rw[←hj];exact gb (fun x=>⟨fq x,SW x⟩)⟩
   ·exfalso
    have⟨v,hv,VS⟩: ∃v,V v∧¬W v:=by
     apply ai
     intro h
     exact fq (fun x hx=>ai (fun h2=>h ⟨x,hx,h2⟩))
    have:=pB hn SW (hU v) hv VS
    omega
  |succ k ih=>
   intro j W hk SW W0 HM Pq hj
   by_cases fq: ∀x,V x→W x
   ·exact⟨j,by rw[←hj];exact gb (fun x=>⟨fq x,SW x⟩)⟩
   have⟨v,hv,VS⟩: ∃v,V v∧¬W v:=by
    apply ai
    intro h
    exact fq (fun x hx=>ai (fun h2=>h ⟨x,hx,h2⟩))
   have WW: ∀x y,V x→V y→V (x+y):=by
    intro x y hx hy
    have:=SV x (0-y) hx (SV 0 y V0 hy)
    rwa [show x-(0-y)=x+y by grind]at this
   have abQ: ∀x y,W x→W y→W (x+y):=by
    intro x y hx hy
    have:=HM x (0-y) hx (HM 0 y W0 hy)
    rwa [show x-(0-y)=x+y by grind]at this
   have HN:cA U (fun x=>∃w a,W w∧C a∧x=w+a*v)=cA U W*cA U C:=by
    apply l6 hU hn (fun w a=>w+a*v)
    ·intro w a hw ha;exact⟨w,a,hw,ha,rfl⟩
    ·intro w a w' a' hw ha SX AG e
     have e2:(a-a')*v=w'-w:=by
      rw[show(a-a')*v=a*v-a'*v by grind]
      grind
     by_cases df:a-a'=0
     ·have h1:a=a':=by grind
      subst h1
      exact⟨by grind,rfl⟩
     ·exfalso
      obtain⟨b,hb,VT⟩:=WU _ (Pp a a' ha AG) df
      apply VS
      rw[←Vf v hv,←VT,aa,e2]
      exact Pq b _ hb (HM w' w SX hw)
    ·rintro z ⟨w,a,hw,ha,rfl⟩;exact⟨w,a,hw,ha,rfl⟩
   apply ih (j+1) (fun x=>∃w a,W w∧C a∧x=w+a*v)
   ·have h1:cA U W<cA U (fun x=>∃w a,W w∧C a∧x=w+a*v):=by
     apply pB hn (a:=v) _ (hU v) ⟨0,f,W0,hf,by rw[Vf v hv];grind⟩ VS
     intro x hx
     exact⟨x,0,hx,C0,by grind⟩
    omega
   ·rintro x ⟨w,a,hw,ha,rfl⟩
    exact WW _ _ (SW w hw) (WV a v ha hv)
   ·exact⟨0,0,W0,C0,by grind⟩
   ·rintro x y ⟨w,a,hw,ha,rfl⟩ ⟨w',a',SX,AG,rfl⟩
    exact⟨w-w',a-a',HM _ _ hw SX,Pp _ _ ha AG,by grind⟩
   ·rintro b x hb ⟨w,a,hw,ha,rfl⟩
    exact⟨b*w,b*a,Pq b w hb hw,WT b a hb ha,by grind⟩
   ·rw[HN,hj,eK]
 apply go (cA U V) 0 (fun x=>x=0) (by omega)
 ·rintro x rfl;exact V0
 ·rfl
 ·rintro x y rfl rfl;grind
 ·rintro a x _ rfl;exact aR a
 ·rw[gu hU hn (l:=[0]) (by simp) (by simp)];simp
end vec
end Ch
end
section
namespace Ch
open Lean.Grind (Semiring Ring CommRing CommSemiring)
namespace Su
variable{p:Nat} [NeZero p]{A G:Type} [Ring A](s:Su p A G)
def In(f x:A):Prop:=f*x=x∧x*f=x
def Sc(p:Nat)(f x:A):Prop:=∃c:Fin p,x=io c*f
theorem uF{f:A}(hf:f≠0):cA s.U (Sc p f)=p:=by
 rw[gu s.ku s.eP (l:=(List.finRange p).map (fun c=>(io c:A)*f))]
 ·simp
 ·apply cR (bA p)
  intro a _ b _ e
  exact oB s.hp s.pA hf e
 ·intro x
  rw[ay]
  constructor
  ·rintro⟨c,_,rfl⟩;exact⟨c,rfl⟩
  ·rintro⟨c,rfl⟩;exact⟨c,ck c,rfl⟩
theorem qW{f:A}{fs:List A}(h: ∀g∈fs,f*g=0∧g*f=0):f*lsum fs (fun g=>g)=0∧lsum fs (fun g=>g)*f=0:=by
 constructor
 ·rw[bU,←fo (R:=A) fs];exact bc fun g hg=>(h g hg).1
 ·rw[cG,←fo (R:=A) fs];exact bc fun g hg=>(h g hg).2
theorem vd{fs:List A}(p9: ∀f∈fs,f*f=f)(ho:fs.Pairwise (fun a b=>a*b=0∧b*a=0)):
  lsum fs (fun g=>g)*lsum fs (fun g=>g)=lsum fs (fun g=>g):=by
 induction fs with
 |nil=>simp[az]
 |cons f fs ih=>
  rw[cu]at ho
  have h1:=ih (fun g hg=>p9 g (by simp[hg])) ho.2
  have h2:=qW ho.1
  have h3:=p9 f (by simp)
  simp only[cz]
  rw[show(f+lsum fs (fun g=>g))*(f+lsum fs (fun g=>g))=f*f+f*lsum fs (fun g=>g)+lsum fs (fun g=>g)*f+lsum fs (fun g=>g)*lsum fs (fun g=>g) by grind,h1,h2.1,h2.2,h3]
  grind
theorem FP{fs:List A}{k:Nat}(p9: ∀f∈fs,f*f=f)(ho:fs.Pairwise (fun a b=>a*b=0∧b*a=0))
  (hk: ∀f∈fs,cA s.U (fun x=>f*x=x)=k):cA s.U (fun x=>lsum fs (fun g=>g)*x=x)=k^fs.length:=by
 induction fs with
 |nil=>
  rw[gu s.ku s.eP (l:=[0]) (by simp)]
  ·simp
  ·intro x
   simp only[aQ,fL,az]
   exact⟨fun h=>h.symm,fun h=>h.symm⟩
 |cons f fs ih=>
  rw[cu]at ho
  have zd: ∀g∈fs,g*g=g:=fun g hg=>p9 g (by simp[hg])
  have h1:=ih zd ho.2 (fun g hg=>hk g (by simp[hg]))
  have h2:=qW ho.1
  have h3:=p9 f (by simp)
  have h4:=vd zd ho.2
  simp only[cz,aC]
  generalize lsum fs (fun g=>g)=E at*
  rw[eK,←h1,←hk f (by simp),pf]
  apply l6 s.ku s.eP (fun x y=>x+y)
  ·intro x y hx hy
   rw[show(f+E)*(x+y)=f*x+f*y+(E*x+E*y) by grind]
   have e1:f*y=0:=by rw[←hy,←aa,h2.1,az]
   have e2:E*x=0:=by rw[←hx,←aa,h2.2,az]
   rw[hx,hy,e1,e2];grind
  ·intro x y x' y' hx hy xZ LS e
   have e1:f*y=0:=by rw[←hy,←aa,h2.1,az]
   have Pr:f*y'=0:=by rw[←LS,←aa,h2.1,az]
   have e3:x=x':=by
    have:f*(x+y)=f*(x'+y'):=by rw[e]
    rw[cU,cU,hx,xZ,e1,Pr,bw,bw]at this
    exact this
   refine⟨e3,?_⟩
   rw[e3]at e;grind
  ·intro z hz
   refine⟨f*z,E*z,by rw[←aa,h3],by rw[←aa,h4],?_⟩
   rw[←bX,hz]
theorem Cp{f0:A}{fs:List A}{k:Nat}(p9: ∀f∈fs,f*f=f)(ho:fs.Pairwise (fun a b=>a*b=0∧b*a=0))
  (hk: ∀f∈fs,cA s.U (fun x=>f0*x=x∧x*f=x)=k):cA s.U (fun x=>f0*x=x∧x*lsum fs (fun g=>g)=x)=k^fs.length:=by
 induction fs with
 |nil=>
  rw[gu s.ku s.eP (l:=[0]) (by simp)]
  ·simp
  ·intro x
   simp only[aQ,fL,aR]
   exact⟨fun h=>⟨by rw[h,aR],h.symm⟩,fun h=>h.2.symm⟩
 |cons f fs ih=>
  rw[cu]at ho
  have zd: ∀g∈fs,g*g=g:=fun g hg=>p9 g (by simp[hg])
  have h1:=ih zd ho.2 (fun g hg=>hk g (by simp[hg]))
  have h2:=qW ho.1
  have h3:=p9 f (by simp)
  have h4:=vd zd ho.2
  simp only[cz,aC]
  generalize lsum fs (fun g=>g)=E at*
  rw[eK,←h1,←hk f (by simp),pf]
  apply l6 s.ku s.eP (fun x y=>x+y)
  ·intro x y hx hy
   refine⟨by rw[cU,hx.1,hy.1],?_⟩
   rw[show(x+y)*(f+E)=x*f+x*E+(y*f+y*E) by grind]
   have e1:y*f=0:=by rw[←hy.2,aa,h2.2,aR]
   have e2:x*E=0:=by rw[←hx.2,aa,h2.1,aR]
   rw[hx.2,hy.2,e1,e2];grind
  ·intro x y x' y' hx hy xZ LS e
   have e1:y*f=0:=by rw[←hy.2,aa,h2.2,aR]
   have Pr:y'*f=0:=by rw[←LS.2,aa,h2.2,aR]
   have e3:x=x':=by
    have:(x+y)*f=(x'+y')*f:=by rw[e]
    rw[bX,bX,hx.2,xZ.2,e1,Pr,bw,bw]at this
    exact this
   refine⟨e3,?_⟩
   rw[e3]at e;grind
  ·intro z hz
   refine⟨z*f,z*E,⟨by rw[←aa,hz.1],by rw[aa,h3]⟩,⟨by rw[←aa,hz.1],by rw[aa,h4]⟩,?_⟩
   rw[←cU,hz.2]
theorem HP{e:A}(P:Prim (aT (A:=A)) e){fs:List A}(Q:Parts (All (A:=A)) e fs){f:A}(hf:f∈fs):
  cA s.U (fun x=>e*x=x)=cA s.U (In f)^(fs.length*fs.length):=by
 have p9: ∀g∈fs,g*g=g:=fun g hg=>(Q.prim g hg).idem
 have h1: ∀h∈fs,cA s.U (fun x=>h*x=x)=cA s.U (fun x=>f*x=x):=by
  intro h hh
  obtain⟨u,v,h1,h2,h3,h4,LQ,SR⟩:=s.link P (Q.prim f hf) (Q.under f hf).1 (Q.prim h hh) (Q.under h hh).1
  apply AS s.ku s.eP (fun x=>u*x) (fun x=>v*x)
  ·intro x _;show f*(u*x)=u*x;rw[←aa,h1]
  ·intro x _;show h*(v*x)=v*x;rw[←aa,h3]
  ·intro x hx;show v*(u*x)=x;rw[←aa,SR];exact hx
  ·intro x hx;show u*(v*x)=x;rw[←aa,LQ];exact hx
 have h2: ∀h∈fs,cA s.U (fun x=>f*x=x∧x*h=x)=cA s.U (In f):=by
  intro h hh
  obtain⟨u,v,h1,h2,h3,h4,LQ,SR⟩:=s.link P (Q.prim f hf) (Q.under f hf).1 (Q.prim h hh) (Q.under h hh).1
  apply AS s.ku s.eP (fun x=>x*v) (fun x=>x*u)
  ·intro x hx;exact⟨by show f*(x*v)=x*v;rw[←aa,hx.1],by show x*v*f=x*v;rw[aa,h4]⟩
  ·intro x hx;exact⟨by show f*(x*u)=x*u;rw[←aa,hx.1],by show x*u*h=x*u;rw[aa,h2]⟩
  ·intro x hx;show x*v*u=x;rw[aa,SR];exact hx.2
  ·intro x hx;show x*u*v=x;rw[aa,LQ];exact hx.2
 have h3:=s.FP p9 Q.um h1
 have h4:=s.Cp (f0:=f) p9 Q.um h2
 rw[Q.sum]at h3 h4
 rw[h3,Nat.pow_mul,←h4]
 congr 1
 apply gb
 intro x
 refine⟨fun hx=>⟨hx,?_⟩,fun hx=>hx.1⟩
 rw[←P.mem x,←hx,←aa,(Q.under f hf).1]
theorem AV:s.qK 0=0:=by
 have:=s.qU 0 0
 rw[bw]at this
 grind
theorem Pt(k:Nat):s.qK (nc k)=nc k:=by
 induction k with
 |zero=>rw[dU,dU,s.AV]
 |succ k ih=>rw[eL,eL,s.qU,ih,s.y9]
theorem HQ(c:Fin p):s.qK (io c)=c:=by rw[io,s.Pt,gO]
include s in
theorem ze:(1:A)≠0:=by
 intro h
 have h1:=s.y9
 rw[h,s.AV]at h1
 have h2:=ba Fin.val h1
 have h3:(1:Fin p).val=1 % p:=rfl
 rw[h3,kc,aM s.hp.1]at h2
 omega
theorem ve{e:A}(AW:s.qK e=0):cA s.U (fun x=>e*x=x)*p≤p^s.gs.length:=by
 have h1:cA s.U (fun z=>∃x c,e*x=x∧Sc p (1:A) c∧z=x+c)=cA s.U (fun x=>e*x=x)*cA s.U (Sc p (1:A)):=by
  apply l6 s.ku s.eP (fun x y=>x+y)
  ·intro x y hx hy;exact⟨x,y,hx,hy,rfl⟩
  ·rintro x y x' y' hx ⟨c,rfl⟩ xZ ⟨c',rfl⟩ h
   have e1:s.qK x=0:=by rw[←hx,s.y8,AW,az]
   have e2:s.qK x'=0:=by rw[←xZ,s.y8,AW,az]
   have h2:=ba s.qK h
   rw[s.qU,s.qU,e1,e2,bL,bL,s.HQ,s.HQ,gq,gq]at h2
   subst h2
   exact⟨by grind,rfl⟩
  ·rintro z ⟨x,c,hx,hc,rfl⟩;exact⟨x,c,hx,hc,rfl⟩
 rw[s.uF s.ze]at h1
 rw[←h1,←s.NZ]
 exact eB _ _
end Su
end Ch
end
section
namespace Ch
open Lean.Grind (Semiring Ring CommRing CommSemiring)
theorem zf{p a b:Nat}(hp:2≤p)(h:p^a=p^b):a=b:=by
 apply Nat.le_antisymm
 ·exact(j0 (by omega)).1 (pj h)
 ·exact(j0 (by omega)).1 (pj h.symm)
theorem AX{m a b d n:Nat}(g6:n≤24)(hd:2≤d)(hm:m*(d*d)+1≤n)(uG:m=a*b)(ha:2≤a)(SE:a<m):m=4∧a=2:=by
 have h1:2*2≤d*d:=ja hd hd
 have h2:m*(2*2)≤m*(d*d):=fe m h1
 have h3:m≤5:=by omega
 have hb:2≤b:=by
  apply ai
  intro hb
  have:b=0∨b=1:=by omega
  rcases this with rfl|rfl
  ·simp at uG;omega
  ·simp at uG;omega
 have ha3:a<3:=by
  apply ai
  intro h
  have:3*2≤a*b:=ja (by omega) hb
  omega
 have RV:a=2:=by omega
 subst RV
 omega
theorem qX{p:Nat}(hp:2≤p)(h:(p^2+1)∣(p^4-p)):False:=by
 obtain⟨c,hc⟩:=h
 have e4:p^4=(p*p)*(p*p):=by rw[show p^4=p*p*p*p by simp[Nat.pow_succ]];grind
 have e2:p^2=p*p:=by simp[eK]
 rw[e4,e2]at hc
 have RW:p≤p*p:=cH p (by omega)
 have hle:p*p≤p*p*(p*p):=cH (p*p) (Nat.mul_pos (by omega) (by omega))
 generalize p*p=q at*
 have h1:q*q=(q+1)*c+p:=by omega
 have h2:c<q:=by
  apply ai
  intro h
  have:(q+1)*q≤(q+1)*c:=fe _ (by omega)
  have h3:(q+1)*q=q*q+q:=by grind
  omega
 have h3:q-1≤c:=by
  apply ai
  intro h
  obtain⟨j,hj⟩: ∃j,q=j+2:=⟨q-2,by omega⟩
  have:(q+1)*c≤(q+1)*j:=fe _ (by omega)
  subst hj
  have e5:(j+2)*(j+2)=(j+2+1)*j+(j+4):=by grind
  omega
 obtain⟨j,hj⟩: ∃j,q=j+1:=⟨q-1,by omega⟩
 have hcj:c=j:=by omega
 subst hj hcj
 have e5:(c+1)*(c+1)=(c+1+1)*c+1:=by grind
 omega
theorem Cq{p o:Nat}(hp:2≤p)(h:p^4-1=o*(p^2-1)):o=p^2+1:=by
 have e4:p^4=(p*p)*(p*p):=by rw[show p^4=p*p*p*p by simp[Nat.pow_succ]];grind
 have e2:p^2=p*p:=by simp[eK]
 rw[e4,e2]at h
 rw[e2]
 have RW:2*2≤p*p:=ja hp hp
 generalize p*p=q at*
 obtain⟨j,hj⟩: ∃j,q=j+1:=⟨q-1,by omega⟩
 subst hj
 have h1:(j+1)*(j+1)=(j+2)*j+1:=by grind
 rw[h1]at h
 simp only[Nat.add_sub_cancel]at h
 exact(Nat.eq_of_mul_eq_mul_right (by omega) h).symm
namespace Su
variable{p:Nat} [NeZero p]{A G:Type} [Ring A](s:Su p A G)
theorem as3(a b c d:A):a*(b*c)*d=a*b*c*d:=by grind
theorem kv{f a b:A}(ha:In f a)(hb:In f b):In f (a*b):=
 ⟨by rw[←aa,ha.1],by rw[aa,hb.2]⟩
theorem zg{f a b:A}(ha:In f a)(hb:In f b):In f (a-b):=
 ⟨by rw[show f*(a-b)=f*a-f*b by grind,ha.1,hb.1],by rw[show(a-b)*f=a*f-b*f by grind,ha.2,hb.2]⟩
theorem Ec{f:A}(p9:f*f=f):In f f:=⟨p9,p9⟩
theorem x6{f a:A}(p9:f*f=f)(h:Sc p f a):In f a:=by
 obtain⟨c,rfl⟩:=h
 exact⟨by rw[←aa,←dv,aa,p9],by rw[aa,p9]⟩
include s in
theorem HR{e:A}(P:Prim (aT (A:=A)) e)(Pe:Prim (All (A:=A)) e)(x:A): ∃c:Fin p,e*x*e=io c*e:=by
 have hg: ∀g,∃c:Nat,s.dl g*e=nc c*e:=by
  intro g
  have hpe: ∀k,pw e (k+1)=e:=by
   intro k
   induction k with
   |zero=>exact Co e
   |succ k ih=>rw[pw,ih,P.idem]
  have hep:pw e p=e:=by
   have:=s.hp.1
   obtain⟨k,hk⟩: ∃k,p=k+1:=⟨p-1,by omega⟩
   have h2:=hpe k
   rw[←hk]at h2;exact h2
  have Ed:pw (s.dl g*e) p=s.dl g*e:=by
   rw[pq _ _ (P.mem (s.dl g)).symm,s.Pj,hep]
  apply tS s.hp s.pA Pe
  ·rw[←aa,P.mem,aa,P.idem]
  ·rw[aa,P.idem]
  ·intro c;trivial
  ·intro c
   have WX:(-(nc c):A)=io (-(nc c):Fin p):=by rw[HE s.pA,nT s.pA]
   have h1:s.dl g*e-nc c*e=s.dl g*e+io (-(nc c):Fin p)*e:=by rw[←WX];grind
   have hc:aT ((io (-(nc c):Fin p):A)*e):=dP (f7 _) P.mem
   rw[h1,xY s.hp s.pA _ _ (hc _).symm,Ed,pq _ _ (dv _ _),D8 s.hp s.pA,hep]
 have h1:e*x*e=x*e:=by rw[P.mem x,aa,P.idem]
 rw[h1]
 have h2: ∀l:List G,∀co:G→Fin p,∃c:Fin p,lsum l (fun g=>io (co g)*s.dl g)*e=io c*e:=by
  intro l co
  induction l with
  |nil=>exact⟨0,by rw[fL,px s.pA]⟩
  |cons g l ih=>
   obtain⟨c,hc⟩:=ih
   obtain⟨d,hd⟩:=hg g
   refine⟨co g*nc d+c,?_⟩
   rw[cz,bX,hc,aa,hd,y6 s.pA,ji s.pA,nT s.pA]
   grind
 obtain⟨c,hc⟩:=h2 s.gs (fun g=>s.t (x*s.di g))
 refine⟨c,?_⟩
 rw[←hc,←s.expand x]
def xE(f y z:A):Prop:=In f z∧∃k,In f k∧k≠0∧k*y=z*k
include s in
theorem Cr{f:A}(Pf:Prim (All (A:=A)) f){y z w:A}(hy:In f y)(h1:xE f y z)(h2:xE f y w):xE f z w:=by
 obtain⟨hz,k,hk,Lm,e1⟩:=h1
 obtain⟨hw,l,hl,SY,e2⟩:=h2
 obtain⟨j,j1,j2,S0,Cs⟩:=s.both_inv Pf Lm hk.1 hk.2
 refine⟨hw,l*j,kv hl ⟨j1,j2⟩,?_,?_⟩
 ·intro h0
  apply SY
  rw[←hl.2,←Cs,←aa,h0,az]
 ·have h3:j*z=y*j:=by
   have:j*(k*y)*j=j*(z*k)*j:=by rw[e1]
   rw[as3 j k y j,SQ j z k j,Cs,S0,hy.1]at this
   rw[this,aa,hz.2]
  rw[aa,h3,←aa,e2,aa]
theorem qY{V:A→Prop}(h0:V 0):cA s.U (fun x=>V x∧x≠0)=cA s.U V-1:=by
 have h1:=qg (U:=s.U) V (fun x=>x=0)
 have h2:cA s.U (fun x=>V x∧x=0)=1:=by
  rw[gu s.ku s.eP (l:=[0]) (by simp)]
  ·rfl
  ·intro x
   rw[aQ]
   exact⟨fun h=>⟨h▸h0,h⟩,fun h=>h.2⟩
 have h3:cA s.U (fun x=>V x∧x≠0)=cA s.U (fun x=>V x∧¬x=0):=rfl
 omega
theorem FQ{f:A}(Pf:Prim (All (A:=A)) f){y:A}(hy:In f y):
  cA s.U (In f)-1=cA s.U (xE f y)*(cA s.U (fun c=>In f c∧c*y=y*c)-1):=by
 classical
 have RX:In f 0:=⟨aR f,az f⟩
 rw[←s.qY RX,←s.qY (V:=fun c=>In f c∧c*y=y*c) ⟨RX,by rw[aR,az]⟩]
 have Hu: ∃K:A→A,∀z,xE f y z→In f (K z)∧K z≠0∧K z*y=z*K z:=by
  have h1: ∀z,∃k,xE f y z→In f k∧k≠0∧k*y=z*k:=by
   intro z
   by_cases hz:xE f y z
   ·obtain⟨_,k,hk⟩:=hz
    exact⟨k,fun _=>hk⟩
   ·exact⟨0,fun h=>absurd h hz⟩
  exact⟨fun z=>Classical.choose (h1 z),fun z=>dI (h1 z)⟩
 obtain⟨K,hK⟩:=Hu
 apply l6 s.ku s.eP (fun z c=>K z*c)
 ·intro z c hz hc
  obtain⟨k1,k2,k3⟩:=hK z hz
  refine⟨kv k1 hc.1.1,?_⟩
  intro h0
  obtain⟨j,j1,j2,S0,Cs⟩:=s.both_inv Pf k2 k1.1 k1.2
  apply hc.2
  rw[←hc.1.1.1,←Cs,aa,h0,aR]
 ·intro z c z' c' hz hc xF qL e
  obtain⟨k1,k2,k3⟩:=hK z hz
  obtain⟨k1',k2',k3'⟩:=hK z' xF
  obtain⟨j,j1,j2,S0,Cs⟩:=s.both_inv Pf k2 k1.1 k1.2
  have hw0:K z*c≠0:=by
   intro h0
   apply hc.2
   rw[←hc.1.1.1,←Cs,aa,h0,aR]
  obtain⟨i,i1,i2,S6,hiw⟩:=s.both_inv Pf hw0 (kv k1 hc.1.1).1 (kv k1 hc.1.1).2
  have e1:z*(K z*c)=z'*(K z*c):=by
   have h1:K z*c*y=z*(K z*c):=by rw[aa,hc.1.2,←aa,k3,aa]
   have h2:K z'*c'*y=z'*(K z'*c'):=by rw[aa,qL.1.2,←aa,k3',aa]
   have e':K z*c=K z'*c':=e
   rw[←h1,e',h2]
  have e2:z=z':=by
   rw[←hz.1.2,←xF.1.2,←S6,←aa z,e1,aa]
  subst e2
  refine⟨rfl,?_⟩
  have e':K z*c=K z*c':=e
  rw[←hc.1.1.1,←qL.1.1.1,←Cs,aa,e',aa]
 ·rintro k ⟨hk,Lm⟩
  obtain⟨j,j1,j2,S0,Cs⟩:=s.both_inv Pf Lm hk.1 hk.2
  have hz:xE f y (k*y*j):=⟨kv (kv hk hy) ⟨j1,j2⟩,k,hk,Lm,by rw[aa _ j k,Cs,aa,hy.2]⟩
  obtain⟨k1,k2,k3⟩:=hK _ hz
  obtain⟨i,i1,i2,hki,WY⟩:=s.both_inv Pf k2 k1.1 k1.2
  have S7:K (k*y*j)*(i*k)=k:=by rw[←aa,hki,hk.1]
  refine⟨k*y*j,i*k,hz,⟨⟨kv ⟨i1,i2⟩ hk,?_⟩,?_⟩,S7.symm⟩
  ·have h1:K (k*y*j)*(i*k*y)=K (k*y*j)*(y*(i*k)):=by
    rw[←aa,S7,←aa,k3,aa _ _ (i*k),S7,aa _ j k,Cs,aa,hy.2]
   have h2:i*(K (k*y*j)*(i*k*y))=i*(K (k*y*j)*(y*(i*k))):=by rw[h1]
   rw[←aa i,←aa i,WY,←aa f,←aa f,←aa f,i1,hy.1]at h2
   exact h2
  ·intro h0
   apply Lm
   rw[←S7,h0,aR]
theorem zh{e:A}(P:Prim (aT (A:=A)) e){fs:List A}(Q:Parts (All (A:=A)) e fs){f:A}(hf:f∈fs)
  (g6:s.gs.length≤24)(AW:s.qK e=0)(x0:A): ∃c:Fin p,f*x0*f=io c*f:=by
 have Pf:=Q.prim f hf
 have FO:=(Q.under f hf).1
 have VM:=s.hp.1
 apply ai
 intro kd
 have RX:In f 0:=⟨aR f,az f⟩
 have Pg:In f (f*x0*f):=⟨by rw[←aa,←aa,Pf.idem],by rw[aa,Pf.idem]⟩
 have N8: ∀a b:A,Sc p f a→Sc p f b→Sc p f (a-b):=by
  rintro a b ⟨c,rfl⟩ ⟨d,rfl⟩;exact⟨c-d,by rw[HF s.pA];grind⟩
 have N9: ∀a b:A,Sc p f a→Sc p f b→Sc p f (a*b):=by
  rintro a b ⟨c,rfl⟩ ⟨d,rfl⟩
  refine⟨c*d,?_⟩
  rw[ji s.pA,aa,←aa f,←dv d f,aa (io d) f f,Pf.idem,aa]
 have Oa: ∀a:A,Sc p f a→a≠0→∃b,Sc p f b∧b*a=f:=by
  rintro a ⟨c,rfl⟩ ha
  have hc:c≠0:=by rintro rfl;apply ha;rw[px s.pA,az]
  obtain⟨d,hd⟩:=mL s.hp c hc
  refine⟨io d*f,⟨d,rfl⟩,?_⟩
  rw[Semiring.mul_assoc,←Semiring.mul_assoc f,←dv c f,Semiring.mul_assoc (io c) f f,Pf.idem,←Semiring.mul_assoc,←ji s.pA,show d*c=1 by grind,jh s.pA,Semiring.one_mul]
 have scf:Sc p f f:=⟨1,by rw[jh s.pA,aP]⟩
 have zi:=s.uF Pf.ne
 have hm: ∃m,cA s.U (In f)=p^m:=by
  have:=vec s.ku s.eP scf Pf.ne N8 N9 Oa RX (fun _ _=>zg) (fun a x ha hx=>kv (x6 Pf.idem ha) hx) (fun x hx=>hx.1)
  rw[zi]at this
  exact this
 obtain⟨m,hm⟩:=hm
 have S8: ∀y,In f y→¬Sc p f y→¬ ∀x,y*(f*x*f)=f*x*f*y:=by
  intro y hy LU fq
  exact LU (s.zb P Pf.idem Pf.ne FO hy.1 hy.2 fq)
 have S9: ∀y,In f y→∃a,cA s.U (fun c=>In f c∧c*y=y*c)=p^a:=by
  intro y hy
  have hv:=vec (V:=fun c=>In f c∧c*y=y*c) s.ku s.eP scf Pf.ne N8 N9 Oa
  rw[zi]at hv
  apply hv ⟨RX,by rw[aR,az]⟩
  ·intro a b ha hb
   refine⟨zg ha.1 hb.1,?_⟩
   rw[show(a-b)*y=a*y-b*y by grind,ha.2,hb.2];grind
  ·intro a x ha hx
   refine⟨kv (x6 Pf.idem ha) hx.1,?_⟩
   obtain⟨c,rfl⟩:=ha
   rw[aa,hx.2,aa,←aa f,hy.1,aa,hx.1.1,←aa,dv,aa]
  ·exact fun x hx=>hx.1.1
 have Pu: ∀y,In f y→∃b,cA s.U (In f)=cA s.U (fun c=>In f c∧c*y=y*c)^b:=by
  intro y hy
  apply vec s.ku s.eP (f:=f) ⟨Ec Pf.idem,by rw[hy.1,hy.2]⟩ Pf.ne
  ·intro a b ha hb
   refine⟨zg ha.1 hb.1,?_⟩
   rw[show(a-b)*y=a*y-b*y by grind,ha.2,hb.2];grind
  ·intro a b ha hb
   refine⟨kv ha.1 hb.1,?_⟩
   rw[aa,hb.2,←aa,ha.2,aa]
  ·intro a ha WZ
   obtain⟨b,b1,b2,uG,VT⟩:=s.both_inv Pf WZ ha.1.1 ha.1.2
   refine⟨b,⟨⟨b1,b2⟩,?_⟩,VT⟩
   have h1:b*(a*y)*b=b*(y*a)*b:=by rw[ha.2]
   rw[SQ b a y b,SQ b y a b,VT,uG,←aa f,hy.1,aa,hy.2]at h1
   exact h1.symm
  ·exact RX
  ·exact fun _ _=>zg
  ·exact fun a x ha hx=>kv ha.1 hx
  ·exact fun x hx=>hx.1
 have vf:1≤fs.length:=dA hf
 have hd2:2≤fs.length:=by
  apply ai
  intro h
  have h1:fs.length=1:=by omega
  obtain⟨g,hg⟩:=List.length_eq_one_iff.1 h1
  subst hg
  have hfg:f=g:=by simpa using hf
  subst hfg
  have VR:f=e:=by
   have:=Q.sum
   simp only[cz,fL]at this
   rw[bw]at this
   exact this
  subst VR
  exact kd (s.HR P Pf x0)
 have hbound:m*(fs.length*fs.length)+1≤s.gs.length:=by
  have h1:=s.ve AW
  rw[s.HP P Q hf,hm,←Nat.pow_mul,←eK]at h1
  exact(j0 (by omega)).1 h1
 have key: ∀y,In f y→¬Sc p f y→m=4∧cA s.U (fun c=>In f c∧c*y=y*c)=p^2:=by
  intro y hy LU
  obtain⟨a,ha⟩:=S9 y hy
  obtain⟨b,hb⟩:=Pu y hy
  have uG:m=a*b:=by
   rw[hm,ha,←Nat.pow_mul]at hb
   exact zf VM hb
  have RV:2≤a:=by
   have h1:cA s.U (Sc p f)<cA s.U (fun c=>In f c∧c*y=y*c):=by
    apply pB s.eP (a:=y) _ (s.ku y) ⟨hy,rfl⟩ LU
    rintro x hx
    refine⟨x6 Pf.idem hx,?_⟩
    obtain⟨c,rfl⟩:=hx
    rw[aa,hy.1,←aa,←dv,aa,hy.2]
   rw[zi,ha]at h1
   apply ai
   intro h
   have:a=0∨a=1:=by omega
   rcases this with rfl|rfl
   ·rw[Nat.pow_zero]at h1;omega
   ·rw[Nat.pow_one]at h1;omega
  have SE:a<m:=by
   have W2:=S8 y hy LU
   have⟨x,hx⟩: ∃x,¬y*(f*x*f)=f*x*f*y:=by
    apply ai
    intro h
    exact W2 (fun x=>ai (fun h2=>h ⟨x,h2⟩))
   have W3:In f (f*x*f):=⟨by rw[←aa,←aa,Pf.idem],by rw[aa,Pf.idem]⟩
   have h1:cA s.U (fun c=>In f c∧c*y=y*c)<cA s.U (In f):=
    pB s.eP (a:=f*x*f) (fun z hz=>hz.1) (s.ku _) W3 (fun h=>hx h.2.symm)
   rw[ha,hm]at h1
   exact(Nat.pow_lt_pow_iff_right (by omega)).1 h1
  have:=AX g6 hd2 hbound uG RV SE
  exact⟨this.1,by rw[ha,this.2]⟩
 have W4: ¬Sc p f (f*x0*f):=fun h=>kd h
 have hm4:m=4:=(key _ Pg W4).1
 subst hm4
 have W5: ∀y,In f y→¬Sc p f y→cA s.U (xE f y)=p^2+1:=by
  intro y hy LU
  have h1:=s.FQ Pf hy
  rw[(key y hy LU).2,hm]at h1
  exact Cq VM h1
 have Ta:(p^2+1)∣cA s.U (fun y=>In f y∧¬Sc p f y):=by
  apply AU s.ku s.eP (xE f) _ _ (aq _)
  ·intro y hy;exact⟨hy.1,f,Ec Pf.idem,Pf.ne,by rw[hy.1.1,hy.1.2]⟩
  ·rintro y z hy ⟨hz,k,hk,Lm,e1⟩
   refine⟨hz,?_⟩
   rintro⟨c,rfl⟩
   apply hy.2
   refine⟨c,?_⟩
   obtain⟨j,j1,j2,S0,Cs⟩:=s.both_inv Pf Lm hk.1 hk.2
   have h1:j*(k*y)=j*(io c*f*k):=by rw[e1]
   rw[←aa,Cs,hy.1.1,aa (io c),hk.1,←aa j,←dv,aa,Cs]at h1
   exact h1
  ·intro y z w hy h1 h2;exact s.Cr Pf hy.1 h1 h2
  ·intro y hy;exact W5 y hy.1 hy.2
 have Pw:cA s.U (fun y=>In f y∧¬Sc p f y)=p^4-p:=by
  have h1:=qg (U:=s.U) (In f) (Sc p f)
  have h2:cA s.U (fun y=>In f y∧Sc p f y)=p:=by
   refine Eq.trans ?_ zi;exact gb (fun x=>⟨fun h=>h.2,fun h=>⟨x6 Pf.idem h,h⟩⟩)
  rw[hm,h2]at h1
  omega
 rw[Pw]at Ta
 exact qX VM Ta
theorem qa(g6:s.gs.length≤24){e:A}(P:Prim (aT (A:=A)) e):
  ∃d,1≤d∧d*d≤s.gs.length∧(nc (d*d):Fin p)=nc s.gs.length*s.t e:=by
 by_cases AW:s.qK e=0
 ·obtain⟨fs,Q⟩:=parts s.ku s.eP (All (A:=A)) (fun _ _ _ _=>trivial) _ e trivial P.idem (aq _)
  have df:fs≠[]:=by
   rintro rfl
   apply P.ne
   rw[←Q.sum,fL]
  obtain⟨f,hf⟩:=List.exists_mem_of_ne_nil fs df
  have Eb:=s.zh P Q hf g6 AW
  refine⟨fs.length,dA hf,?_,s.degree P Q hf Eb⟩
  have h1:=s.ve AW
  rw[s.HP P Q hf]at h1
  have h2:cA s.U (In f)=p:=by
   refine Eq.trans ?_ (s.uF (Q.prim f hf).ne)
   apply gb
   intro x
   refine⟨fun h=>?_,fun h=>x6 (Q.prim f hf).idem h⟩
   obtain⟨c,hc⟩:=Eb x
   exact⟨c,by rw[←hc,h.1,h.2]⟩
  rw[h2,←eK]at h1
  have h3:=(j0 (by have:=s.hp.1;omega)).1 h1
  omega
 ·have h1:s.lg*e=io (s.qK e)*s.lg:=by rw[s.jH,s.qV]
  obtain⟨c,hc⟩:=s.f9 P s.jH
  have Eb: ∀x,∃c:Fin p,e*x*e=io c*e:=by
   intro x
   refine⟨s.qK x,?_⟩
   have hx:e*x*e=x*e:=by rw[P.mem x,aa,P.idem]
   rw[hx]
   have FR:c≠0:=by
    rintro rfl
    rw[px s.pA,az,h1]at hc
    exact s.N0 AW s.HI hc
   obtain⟨d,hd⟩:=mL s.hp c FR
   have he:e=io d*(io (s.qK e)*s.lg):=by
    rw[←h1,hc,←Semiring.mul_assoc,←ji s.pA,show d*c=1 by grind,jh s.pA,Semiring.one_mul]
   rw[he,←aa x,←dv d x,aa,←aa x,←dv (s.qK e) x,aa (io (s.qK e)) x,s.qV]
   rw[←aa (io (s.qK e)),dv (s.qK e) (io (s.qK x)),aa,←aa (io d),dv d (io (s.qK x)),aa]
  have h2:=s.AR P P.idem P.ne P.idem Eb
  have hlen:s.gs.length≠0:=by
   intro h0
   exact s.Pk (by rw[h0,dU])
  refine⟨1,aq 1,by omega,?_⟩
  apply dH s.hp h2.1
  have:=h2.2
  rw[show(1*1:Nat)=1 from rfl,gN]
  grind
end Su
end Ch
end
section
namespace Ch
open Lean.Grind (Semiring Ring CommRing CommSemiring)
namespace Su
variable{p:Nat} [NeZero p]{A G:Type} [Ring A](s:Su p A G)
theorem eR:aT (0:A):=fun x=>by rw[az,aR]
theorem qZ{fs:List A}{k:Nat}(hc: ∀f∈fs,aT f)(p9: ∀f∈fs,f*f=f)(ho:fs.Pairwise (fun a b=>a*b=0∧b*a=0))
  (hk: ∀f∈fs,cA s.U (fun x=>aT x∧f*x=x)=k):cA s.U (fun x=>aT x∧lsum fs (fun g=>g)*x=x)=k^fs.length:=by
 induction fs with
 |nil=>
  rw[gu s.ku s.eP (l:=[0]) (by simp)]
  ·simp
  ·intro x
   simp only[aQ,fL,az]
   exact⟨fun h=>⟨h▸eR,h.symm⟩,fun h=>h.2.symm⟩
 |cons f fs ih=>
  rw[cu]at ho
  have zd: ∀g∈fs,g*g=g:=fun g hg=>p9 g (by simp[hg])
  have qL: ∀g∈fs,aT g:=fun g hg=>hc g (by simp[hg])
  have h1:=ih qL zd ho.2 (fun g hg=>hk g (by simp[hg]))
  have h2:=qW ho.1
  have h3:=p9 f (by simp)
  have h4:=vd zd ho.2
  have VU:=hc f (by simp)
  have hcE:aT (lsum fs (fun g=>g)):=by
   clear h1 h2 h3 h4 ih hk p9 ho hc zd
   induction fs with
   |nil=>exact eR
   |cons g fs SA=>
    rw[cz]
    exact iA (qL g (by simp)) (SA (fun h hh=>qL h (by simp[hh])))
  simp only[cz,aC]
  generalize lsum fs (fun g=>g)=E at*
  rw[eK,←h1,←hk f (by simp),pf]
  apply l6 s.ku s.eP (fun x y=>x+y)
  ·intro x y hx hy
   refine⟨iA hx.1 hy.1,?_⟩
   rw[show(f+E)*(x+y)=f*x+f*y+(E*x+E*y) by grind]
   have e1:f*y=0:=by rw[←hy.2,←aa,h2.1,az]
   have e2:E*x=0:=by rw[←hx.2,←aa,h2.2,az]
   rw[hx.2,hy.2,e1,e2];grind
  ·intro x y x' y' hx hy xZ LS e
   have e1:f*y=0:=by rw[←hy.2,←aa,h2.1,az]
   have Pr:f*y'=0:=by rw[←LS.2,←aa,h2.1,az]
   have e3:x=x':=by
    have:f*(x+y)=f*(x'+y'):=by rw[e]
    rw[cU,cU,hx.2,xZ.2,e1,Pr,bw,bw]at this
    exact this
   refine⟨e3,?_⟩
   rw[e3]at e;grind
  ·intro z hz
   refine⟨f*z,E*z,⟨dP VU hz.1,by rw[←aa,h3]⟩,⟨dP hcE hz.1,by rw[←aa,h4]⟩,?_⟩
   rw[←bX,hz.2]
theorem rb{es:List A}(Q:Parts (aT (A:=A)) 1 es):cA s.U aT=p^es.length:=by
 have h1:=s.qZ (k:=p) (fun f hf=>(Q.prim f hf).mem) (fun f hf=>(Q.prim f hf).idem) Q.um (by
  intro e he
  refine Eq.trans ?_ (s.uF (Q.prim e he).ne)
  apply gb
  intro x
  constructor
  ·rintro⟨hx,hex⟩
   obtain⟨c,hc⟩:=s.f9 (Q.prim e he) hx
   exact⟨c,by rw[←hc,hx,hex]⟩
  ·intro hx
   refine⟨?_,(x6 (Q.prim e he).idem hx).1⟩
   obtain⟨c,rfl⟩:=hx
   exact dP (f7 c) (Q.prim e he).mem)
 rw[Q.sum]at h1
 rw[←h1]
 apply gb
 intro x
 exact⟨fun h=>⟨h,aP x⟩,fun h=>h.1⟩
structure l7(om:A→Fin p):Prop where
 add: ∀x y,aT x→aT y→om (x+y)=om x+om y
 mul: ∀x y,aT x→aT y→om (x*y)=om x*om y
 one:om 1=1
theorem lj:aT (1:A):=fun x=>by rw[aP,bL]
theorem vg{om:A→Fin p}(W:l7 om):om 0=0:=by
 have:=W.add 0 0 eR eR
 rw[bw]at this
 grind
theorem HS{om:A→Fin p}(W:l7 om)(k:Nat):om (nc k)=nc k:=by
 induction k with
 |zero=>rw[dU,dU,vg W]
 |succ k ih=>rw[eL,eL,W.add _ _ (va k) lj,ih,W.one]
theorem vh{om:A→Fin p}(W:l7 om)(c:Fin p):om (io c)=c:=by
 rw[io,HS W,gO]
theorem sC{om:A→Fin p}(W:l7 om){α:Type}(l:List α)(f:α→A)(hf: ∀a∈l,aT (f a)):
  aT (lsum l f)∧om (lsum l f)=lsum l (fun a=>om (f a)):=by
 induction l with
 |nil=>exact⟨eR,vg W⟩
 |cons a l ih=>
  have h1:=ih (fun b hb=>hf b (by simp[hb]))
  have h2:=hf a (by simp)
  simp only[cz]
  exact⟨iA h2 h1.1,by rw[W.add _ _ h2 h1.1,h1.2]⟩
include s in
theorem AY{es:List A}(Q:Parts (aT (A:=A)) 1 es){om:A→Fin p}(W:l7 om): ∃e∈es,om e=1∧∀z,aT z→z*e=io (om z)*e:=by
 have h1:om (lsum es (fun e=>e))=1:=by rw[Q.sum,W.one]
 rw[(sC W es (fun e=>e) (fun e he=>(Q.prim e he).mem)).2]at h1
 have⟨e,he,df⟩: ∃e∈es,om e≠0:=by
  apply ai
  intro kd
  have:lsum es (fun e=>om e)=0:=by
   rw[←fo (R:=Fin p) es]
   apply bc
   intro e he
   exact ai (fun h=>kd ⟨e,he,h⟩)
  rw[this]at h1
  have h2:=ba Fin.val h1
  have h3:(1:Fin p).val=1 % p:=rfl
  rw[h3,kc,aM s.hp.1]at h2
  omega
 have P:=Q.prim e he
 have h2:om e=1:=by
  apply dH s.hp df
  rw[←W.mul e e P.mem P.mem,P.idem,bL]
 refine⟨e,he,h2,?_⟩
 intro z hz
 obtain⟨c,hc⟩:=s.f9 P hz
 have h3:=ba om hc
 rw[W.mul _ _ hz P.mem,W.mul _ _ (f7 c) P.mem,h2,vh W,bL,bL]at h3
 rw[hc,h3]
include s in
theorem vi{e:A}(P:Prim (aT (A:=A)) e): ∃om:A→Fin p,l7 om∧∀z,aT z→z*e=io (om z)*e:=by
 have h1: ∀z,∃c:Fin p,aT z→z*e=io c*e:=by
  intro z
  by_cases hz:aT z
  ·obtain⟨c,hc⟩:=s.f9 P hz
   exact⟨c,fun _=>hc⟩
  ·exact⟨0,fun h=>absurd h hz⟩
 obtain⟨om,h2⟩: ∃om:A→Fin p,∀z,aT z→z*e=io (om z)*e:=
  ⟨fun z=>Classical.choose (h1 z),fun z hz=>dI (h1 z) hz⟩
 refine⟨om,?_,h2⟩
 constructor
 ·intro x y hx hy
  apply oB s.hp s.pA P.ne
  rw[←h2 _ (iA hx hy),y6 s.pA,bX,bX,h2 x hx,h2 y hy]
 ·intro x y hx hy
  apply oB s.hp s.pA P.ne
  rw[←h2 _ (dP hx hy),ji s.pA,aa,h2 y hy,←aa,←dv,aa,h2 x hx,←aa,dv (om y)]
 ·apply oB s.hp s.pA P.ne
  rw[←h2 _ lj,jh s.pA]
end Su
end Ch
end
section
namespace Ch
open Lean.Grind (Semiring Ring CommRing CommSemiring)
structure Gp(n:Nat) where
 mul:Fin n→Fin n→Fin n
 one:Fin n
 inv:Fin n→Fin n
 assoc: ∀a b c,mul (mul a b) c=mul a (mul b c)
 one_mul: ∀a,mul one a=a
 mul_one: ∀a,mul a one=a
 inv_mul: ∀a,mul (inv a) a=one
 fk: ∀a,mul a (inv a)=one
namespace Gp
variable{n:Nat}(G:Gp n)
theorem inv_mul_cancel(a b:Fin n):G.mul (G.inv a) (G.mul a b)=b:=by rw[←G.assoc,G.inv_mul,G.one_mul]
theorem mul_inv_cancel(a b:Fin n):G.mul a (G.mul (G.inv a) b)=b:=by rw[←G.assoc,G.fk,G.one_mul]
theorem fB{a b c:Fin n}(h:G.mul a b=G.mul a c):b=c:=by
 rw[←G.inv_mul_cancel a b,h,G.inv_mul_cancel]
theorem inv_inv(a:Fin n):G.inv (G.inv a)=a:=by
 apply G.fB (a:=G.inv a)
 rw[G.fk,G.inv_mul]
theorem inv_mul_rev(a b:Fin n):G.inv (G.mul a b)=G.mul (G.inv b) (G.inv a):=by
 apply G.fB (a:=G.mul a b)
 rw[G.fk,G.assoc,←G.assoc b,G.fk,G.one_mul,G.fk]
theorem inv_one:G.inv G.one=G.one:=by
 apply G.fB (a:=G.one);rw[G.fk,G.one_mul]
theorem sD{a b:Fin n}(h:G.mul a b=G.one):b=G.inv a:=by
 apply G.fB (a:=a);rw[h,G.fk]
end Gp
def Gp.pow{n:Nat}(G:Gp n)(a:Fin n):Nat→Fin n
 |0=>G.one
 |k+1=>G.mul (Gp.pow G a k) a
section Px
variable{n:Nat}{R:Type} [Semiring R]
def fs(f:Fin n→R):R:=lsum (List.finRange n) f
theorem lM(f:Fin n→R)(a b:Fin n→Fin n)(h1: ∀x,b (a x)=x)(h2: ∀x,a (b x)=x):fs (fun x=>f (a x))=fs f:=by
 rw[fs,←iO (List.finRange n) a f,fs]
 apply sy
 apply cX _ (bA n)
 ·intro x
  simp only[ay,ck,true_and,iff_true]
  exact⟨b x,h2 x⟩
 ·apply cR (bA n)
  intro x _ y _ e
  rw[←h1 x,e,h1]
theorem bp{f g:Fin n→R}(h: ∀x,f x=g x):fs f=fs g:=bc (fun a _=>h a)
theorem ft(f:Fin n→R)(a:Fin n)(h: ∀b,b≠a→f b=0):fs f=f a:=
 fA (bA n) (ck a) f (fun b _ hb=>h b hb)
theorem pD(f:Fin n→Fin n→R):fs (fun a=>fs (fun b=>f a b))=fs (fun b=>fs (fun a=>f a b)):=jf _ _ f
theorem eS(c:R)(f:Fin n→R):c*fs f=fs (fun a=>c*f a):=bU _ c f
theorem eT(c:R)(f:Fin n→R):fs f*c=fs (fun a=>f a*c):=cG _ c f
theorem sE(f g:Fin n→R):fs (fun a=>f a+g a)=fs f+fs g:=qR _ f g
theorem zj:fs (fun _:Fin n=>(0:R))=0:=fo _
theorem HU(c:R):fs (fun _:Fin n=>c)=nc n*c:=by rw[fs,jg,cx]
end Px
structure Alg{n:Nat}(G:Gp n)(p:Nat) where
 co:Fin n→Fin p
namespace Alg
variable{n p:Nat} [NeZero p]{G:Gp n}
theorem ext{x y:Alg G p}(h: ∀c,x.co c=y.co c):x=y:=by
 cases x;cases y;congr;funext c;exact h c
def sc(c:Fin p):Alg G p:=⟨fun g=>if g=G.one then c else 0⟩
def add(x y:Alg G p):Alg G p:=⟨fun g=>x.co g+y.co g⟩
def neg(x:Alg G p):Alg G p:=⟨fun g=> -x.co g⟩
def mul(x y:Alg G p):Alg G p:=⟨fun c=>fs (fun a=>x.co a*y.co (G.mul (G.inv a) c))⟩
def npw(x:Alg G p):Nat→Alg G p
 |0=>sc (nc 1)
 |k+1=>mul (npw x k) x
def zc(i:Int):Alg G p:=match i with
 |.ofNat k=>sc (nc k)
 |.negSucc k=>neg (sc (nc (k+1)))
theorem qh(c:Fin p)(x:Alg G p)(h:Fin n):(mul (sc c) x).co h=c*x.co h:=by
 show fs (fun a=>(if a=G.one then c else 0)*x.co (G.mul (G.inv a) h))=_
 rw[ft _ G.one]
 ·rw[aO rfl,G.inv_one,G.one_mul]
 ·intro b hb
  rw[aI hb,az]
theorem HV(c:Fin p)(x:Alg G p)(h:Fin n):(mul x (sc c)).co h=x.co h*c:=by
 show fs (fun a=>x.co a*(if G.mul (G.inv a) h=G.one then c else 0))=_
 rw[ft _ h]
 ·rw[G.inv_mul,aO rfl]
 ·intro b hb
  rw[aI,aR]
  intro e
  apply hb
  have:=G.sD e
  rw[this,G.inv_inv]
instance:Semiring (Alg G p) where
 add:=add
 mul:=mul
 natCast:=⟨fun k=>sc (nc k)⟩
 ofNat k:=⟨sc (nc k)⟩
 nsmul:=⟨fun k x=>mul (sc (nc k)) x⟩
 npow:=⟨npw⟩
 add_zero x:=by
  apply ext;intro c
  show x.co c+(if c=G.one then(nc 0:Fin p)else 0)=x.co c
  rw[dU];split<;>exact bw _
 add_comm x y:=by apply ext;intro c;exact Semiring.add_comm _ _
 add_assoc x y z:=by apply ext;intro c;exact Semiring.add_assoc _ _ _
 mul_assoc x y z:=by
  apply ext;intro c
  show fs (fun b=>fs (fun a=>x.co a*y.co (G.mul (G.inv a) b))*z.co (G.mul (G.inv b) c))=fs (fun a=>x.co a*fs (fun b=>y.co b*z.co (G.mul (G.inv b) (G.mul (G.inv a) c))))
  have h1:fs (fun b=>fs (fun a=>x.co a*y.co (G.mul (G.inv a) b))*z.co (G.mul (G.inv b) c))=fs (fun b=>fs (fun a=>x.co a*y.co (G.mul (G.inv a) b)*z.co (G.mul (G.inv b) c))):=
   bp fun b=>eT _ _
  rw[h1,pD]
  apply bp
  intro a
  rw[eS]
  rw[←lM (fun b=>x.co a*y.co (G.mul (G.inv a) b)*z.co (G.mul (G.inv b) c)) (fun b=>G.mul a b) (fun b=>G.mul (G.inv a) b) (G.inv_mul_cancel a) (G.mul_inv_cancel a)]
  apply bp
  intro b
  show x.co a*y.co (G.mul (G.inv a) (G.mul a b))*z.co (G.mul (G.inv (G.mul a b)) c)=_
  rw[G.inv_mul_cancel,G.inv_mul_rev,G.assoc,aa]
 mul_one x:=by
  apply ext;intro c
  show(mul x (sc (nc 1))).co c=_
  rw[HV,gN,bL]
 one_mul x:=by
  apply ext;intro c
  show(mul (sc (nc 1)) x).co c=_
  rw[qh,gN,aP]
 left_distrib x y z:=by
  apply ext;intro c
  show fs (fun a=>x.co a*(y.co _+z.co _))=fs _+fs _
  rw[←sE];exact bp fun a=>cU _ _ _
 right_distrib x y z:=by
  apply ext;intro c
  show fs (fun a=>(x.co a+y.co a)*z.co _)=fs _+fs _
  rw[←sE];exact bp fun a=>bX _ _ _
 zero_mul x:=by
  apply ext;intro c
  show(mul (sc (nc 0)) x).co c=(if c=G.one then(nc 0:Fin p)else 0)
  rw[qh,dU,az];split<;>rfl
 mul_zero x:=by
  apply ext;intro c
  show(mul x (sc (nc 0))).co c=(if c=G.one then(nc 0:Fin p)else 0)
  rw[HV,dU,aR];split<;>rfl
 pow_zero x:=rfl
 pow_succ x k:=rfl
 ofNat_succ k:=by
  apply ext;intro c
  show(if c=G.one then(nc (k+1):Fin p)else 0)=(if c=G.one then(nc k:Fin p)else 0)+(if c=G.one then(nc 1:Fin p)else 0)
  split
  ·rw[eL,gN]
  ·exact(bw _).symm
 ofNat_eq_natCast k:=rfl
 nsmul_eq_natCast_mul k x:=rfl
instance:Ring (Alg G p) where
 neg:=neg
 sub x y:=add x (neg y)
 intCast:=⟨zc⟩
 zsmul:=⟨fun i x=>mul (zc i) x⟩
 neg_add_cancel x:=by
  apply ext;intro c
  show-x.co c+x.co c=(if c=G.one then(nc 0:Fin p)else 0)
  rw[dU];split<;>exact Ring.neg_add_cancel _
 sub_eq_add_neg x y:=rfl
 neg_zsmul i x:=by
  have h1:(zc (-i):Alg G p)=neg (zc i):=by
   have hz: ∀y:Fin p,- -y=y:=by intro y;grind
   cases i with
   |ofNat k=>
    cases k with
    |zero=>
     apply ext;intro c
     show(if c=G.one then(nc 0:Fin p)else 0)= -(if c=G.one then(nc 0:Fin p)else 0)
     rw[dU];split<;>grind
    |succ k=>rfl
   |negSucc k=>
    apply ext;intro c
    show(sc (nc (k+1)):Alg G p).co c= - -(sc (nc (k+1)):Alg G p).co c
    rw[hz]
  show mul (zc (-i)) x=neg (mul (zc i) x)
  rw[h1]
  apply ext;intro c
  show fs (fun a=> -(zc i).co a*x.co _)= -fs (fun a=>(zc i).co a*x.co _)
  have h2: ∀f:Fin n→Fin p,-fs f=fs (fun a=> -f a):=by
   intro f
   have:fs (fun a=> -f a)+fs f=0:=by
    rw[←sE,←zj (n:=n) (R:=Fin p)]
    exact bp fun a=>Ring.neg_add_cancel _
   grind
  rw[h2]
  exact bp fun a=>by grind
 zsmul_natCast_eq_nsmul k x:=rfl
 intCast_ofNat k:=rfl
 intCast_neg i:=by
  have hz: ∀y:Fin p,- -y=y:=by intro y;grind
  cases i with
  |ofNat k=>
   cases k with
   |zero=>
    apply ext;intro c
    show(if c=G.one then(nc 0:Fin p)else 0)= -(if c=G.one then(nc 0:Fin p)else 0)
    rw[dU];split<;>grind
   |succ k=>rfl
  |negSucc k=>
   apply ext;intro c
   show(sc (nc (k+1)):Alg G p).co c= - -(sc (nc (k+1)):Alg G p).co c
   rw[hz]
theorem HW(x y:Alg G p)(c:Fin n):(x+y).co c=x.co c+y.co c:=rfl
theorem lN(x y:Alg G p)(c:Fin n):(x*y).co c=fs (fun a=>x.co a*y.co (G.mul (G.inv a) c)):=rfl
theorem rf(c:Fin n):(0:Alg G p).co c=0:=by
 show(if c=G.one then(nc 0:Fin p)else 0)=0
 rw[dU];split<;>rfl
theorem oF(c:Fin n):(1:Alg G p).co c=if c=G.one then 1 else 0:=by
 show(if c=G.one then(nc 1:Fin p)else 0)=_
 rw[gN]
theorem Ob(k:Nat):(nc k:Alg G p)=sc (nc k):=by
 induction k with
 |zero=>rfl
 |succ k ih=>
  apply ext;intro c
  rw[eL,HW,ih,oF]
  show(if c=G.one then(nc k:Fin p)else 0)+_=(if c=G.one then(nc (k+1):Fin p)else 0)
  split
  ·rfl
  ·exact bw _
theorem nU(a:Fin p)(x:Alg G p)(c:Fin n):(io a*x).co c=a*x.co c:=by
 rw[io,Ob,gO];exact qh a x c
theorem ig:(nc p:Alg G p)=0:=by
 rw[Ob,LL]
 apply ext;intro c
 rw[rf]
 show(if c=G.one then(0:Fin p)else 0)=0
 split<;>rfl
theorem qi{α:Type}(l:List α)(f:α→Alg G p)(c:Fin n):(lsum l f).co c=lsum l (fun a=>(f a).co c):=
 qT (fun x:Alg G p=>x.co c) (rf c) (fun x y=>rfl) l f
def dl(g:Fin n):Alg G p:=⟨fun h=>if h=g then 1 else 0⟩
theorem oG(g h:Fin n):(dl g:Alg G p).co h=if h=g then 1 else 0:=rfl
theorem sF(g:Fin n)(x:Alg G p)(c:Fin n):(dl g*x).co c=x.co (G.mul (G.inv g) c):=by
 rw[lN,ft _ g]
 ·rw[oG,aO rfl,aP]
 ·intro b hb;rw[oG,aI hb,az]
theorem pE(g:Fin n)(x:Alg G p)(c:Fin n):(x*dl g).co c=x.co (G.mul c (G.inv g)):=by
 rw[lN,ft _ (G.mul c (G.inv g))]
 ·rw[oG,aO,bL]
  rw[G.inv_mul_rev,G.inv_inv,G.assoc,G.inv_mul,G.mul_one]
 ·intro b hb
  rw[oG,aI,aR]
  intro e
  apply hb
  rw[←e,G.inv_mul_rev,G.inv_inv,G.mul_inv_cancel]
theorem vj(g h:Fin n):(dl g*dl h:Alg G p)=dl (G.mul g h):=by
 apply ext;intro c
 rw[sF,oG,oG]
 by_cases e:c=G.mul g h
 ·rw[aO e,aO];rw[e,G.inv_mul_cancel]
 ·rw[aI e,aI]
  intro e2;apply e;rw[←e2,G.mul_inv_cancel]
theorem zk:(dl G.one:Alg G p)=1:=by
 apply ext;intro c;rw[oG,oF]
theorem Oc(g:Fin n)(k:Nat):pw (dl g:Alg G p) k=dl (G.pow g k):=by
 induction k with
 |zero=>exact zk.symm
 |succ k ih=>rw[gT,ih,vj];rfl
theorem cP{β:Type}(l:List β)(d:β)(i:Nat)(h:i<l.length):l.getD i d=l[i]:=by
 rw[af,aj h,de]
theorem expand(x:Alg G p):x=fs (fun g=>io (x.co g)*dl g):=by
 apply ext;intro c
 rw[fs,qi]
 show _=fs (fun g=>(io (x.co g)*dl g:Alg G p).co c)
 rw[ft _ c]
 ·rw[nU,oG,aO rfl,bL]
 ·intro b hb
  rw[nU,oG,aI (fun e=>hb e.symm),aR]
theorem dk(z:Alg G p):Su.aT z↔ ∀g c,z.co (G.mul (G.mul g c) (G.inv g))=z.co c:=by
 constructor
 ·intro h g c
  have h1:=ba (fun x:Alg G p=>x.co (G.mul g c)) (h (dl g))
  simp only[sF,pE]at h1
  rw[h1,G.inv_mul_cancel]
 ·intro h x
  apply ext;intro c
  rw[lN,lN,←lM (fun a=>z.co a*x.co (G.mul (G.inv a) c)) (fun b=>G.mul c (G.inv b)) (fun a=>G.mul (G.inv a) c)]
  ·apply bp
   intro b
   show z.co (G.mul c (G.inv b))*x.co (G.mul (G.inv (G.mul c (G.inv b))) c)=_
   rw[G.inv_mul_rev,G.inv_inv,G.assoc,G.inv_mul,G.mul_one]
   have h2:=h b (G.mul (G.inv b) c)
   rw[G.mul_inv_cancel]at h2
   rw[h2];exact gG _ _
  ·intro b;rw[G.inv_mul_rev,G.inv_inv,G.assoc,G.inv_mul,G.mul_one]
  ·intro a;rw[G.inv_mul_rev,G.inv_inv,G.mul_inv_cancel]
def univ:List (Alg G p):=(tuples n (List.finRange p)).map (fun l=>⟨fun i=>l.getD i.val 0⟩)
theorem AZ(x:Alg G p):x∈(univ:List (Alg G p)):=by
 rw[univ,ay]
 refine⟨(List.finRange n).map x.co,eG.2 ⟨by simp,fun a _=>ck a⟩,?_⟩
 apply ext;intro c
 show((List.finRange n).map x.co).getD c.val 0=x.co c
 rw[cP _ _ _ (by simp)]
 simp
theorem vk:(univ:List (Alg G p)).Nodup:=by
 apply cR (kb (bA p) n)
 intro l hl m hm e
 have h1:=(eG.1 hl).1
 have h2:=(eG.1 hm).1
 apply bO (by rw[h1,h2])
 intro i hi hj
 have h3:=ba (fun x:Alg G p=>x.co ⟨i,by omega⟩) e
 simp only[]at h3
 rw[cP _ _ _ hi,cP _ _ _ hj]at h3
 exact h3
theorem A0:(univ:List (Alg G p)).length=p^n:=by
 rw[univ,ae,p8,cx]
theorem mM(x y:Alg G p):(x*y).co G.one=(y*x).co G.one:=by
 rw[lN,lN,←lM (fun a=>x.co a*y.co (G.mul (G.inv a) G.one)) G.inv G.inv G.inv_inv G.inv_inv]
 apply bp
 intro a
 show x.co (G.inv a)*y.co (G.mul (G.inv (G.inv a)) G.one)=_
 rw[G.mul_one,G.mul_one,G.inv_inv];exact gG _ _
theorem HX(x:Alg G p)(c:Fin n):(lsum (List.finRange n) (fun g=>dl g*x*dl (G.inv g))).co c=fs (fun g=>x.co (G.mul (G.mul (G.inv g) c) g)):=by
 rw[qi]
 apply bp
 intro g
 rw[pE,sF,G.inv_inv,G.assoc]
theorem lh(x:Alg G p):Su.aT (lsum (List.finRange n) (fun g=>dl g*x*dl (G.inv g))):=by
 rw[dk]
 intro h c
 rw[HX,HX]
 rw[←lM (fun g=>x.co (G.mul (G.mul (G.inv g) (G.mul (G.mul h c) (G.inv h))) g)) (fun g=>G.mul h g) (fun g=>G.mul (G.inv h) g) (G.inv_mul_cancel h) (G.mul_inv_cancel h)]
 apply bp
 intro g
 show x.co (G.mul (G.mul (G.inv (G.mul h g)) (G.mul (G.mul h c) (G.inv h))) (G.mul h g))=_
 congr 1
 rw[G.inv_mul_rev]
 simp only[G.assoc]
 rw[G.inv_mul_cancel,G.inv_mul_cancel]
theorem pC(hp:gR p)(hn:(nc n:Fin p)≠0)(pV: ∀g,G.pow g p=g)(z:Alg G p)(hz:Su.aT z):pw z p=z:=by
 have Od:=(dk z).1 hz
 have VV:=(dk (pw z p)).1 (Su.vb hz p)
 apply ext;intro c
 let T:Alg G p→Fin p:=fun x=>fs (fun g=>x.co (G.mul (G.mul g c) (G.inv g)))
 have T0:T 0=0:=by
  show fs _=0
  rw[←zj (n:=n) (R:=Fin p)];exact bp fun g=>rf _
 have Tb: ∀x y,T (x+y)=T x+T y:=fun x y=>sE _ _
 have Tdl: ∀(a b:Fin p)(g h:Fin n),T ((io a*dl g)*(io b*dl h))=T ((io b*dl h)*(io a*dl g)):=by
  intro a b g h
  have e1: ∀(a b:Fin p)(g h:Fin n),(io a*dl g)*(io b*dl h)=(io (a*b)*dl (G.mul g h):Alg G p):=by
   intro a b g h
   rw[ji ig,←vj,aa,←aa (dl g),←dv b (dl g),aa (io b),←aa (io a)]
  rw[e1,e1,show b*a=a*b by grind]
  show fs (fun k=>(io (a*b)*dl (G.mul g h):Alg G p).co (G.mul (G.mul k c) (G.inv k)))=fs (fun k=>(io (a*b)*dl (G.mul h g):Alg G p).co (G.mul (G.mul k c) (G.inv k)))
  rw[←lM (fun k=>(io (a*b)*dl (G.mul g h):Alg G p).co (G.mul (G.mul k c) (G.inv k))) (fun k=>G.mul g k) (fun k=>G.mul (G.inv g) k) (G.inv_mul_cancel g) (G.mul_inv_cancel g)]
  apply bp
  intro k
  show(io (a*b)*dl (G.mul g h):Alg G p).co (G.mul (G.mul (G.mul g k) c) (G.inv (G.mul g k)))=_
  rw[nU,nU,oG,oG]
  congr 1
  have e2:G.mul (G.mul (G.mul g k) c) (G.inv (G.mul g k))=G.mul g (G.mul (G.mul (G.mul k c) (G.inv k)) (G.inv g)):=by
   rw[G.inv_mul_rev];simp only[G.assoc]
  rw[e2]
  generalize G.mul (G.mul k c) (G.inv k)=q
  by_cases e:q=G.mul h g
  ·rw[aO e,aO];rw[e,G.assoc h,G.fk,G.mul_one]
  ·rw[aI e,aI]
   intro e3
   apply e
   have:=G.fB e3
   rw[←this,G.assoc,G.inv_mul,G.mul_one]
 have Tl: ∀(l:List (Fin n))(f:Fin n→Fin p),∃(a:Fin p)(h:Fin n),iz (fun g=>(io (f g)*dl g:Alg G p)) l=io a*dl h:=by
  intro l f
  induction l with
  |nil=>exact⟨1,G.one,by rw[iz,jh ig,zk,aP]⟩
  |cons g l ih=>
   obtain⟨a,h,e⟩:=ih
   refine⟨f g*a,G.mul g h,?_⟩
   rw[iz,e,ji ig,←vj,aa,←aa (dl g),←dv a (dl g),aa (io a),←aa (io (f g))]
 have h1:=O7 hp LL T T0 Tb (bA n) (fun g=>io (z.co g)*dl g) (by
  intro g _ l _
  obtain⟨a,h,e⟩:=Tl l z.co
  rw[e]
  exact Tdl _ _ _ _)
 have h2:lsum (List.finRange n) (fun g=>(io (z.co g)*dl g:Alg G p))=z:=(expand z).symm
 rw[h2]at h1
 have h3:lsum (List.finRange n) (fun g=>T (pw (io (z.co g)*dl g) p))=T z:=by
  conv=>rhs;rw[←h2]
  rw[qT T T0 Tb]
  apply bc
  intro g _
  rw[pq _ _ (dv _ _),D8 hp ig,Oc,pV]
 rw[h3]at h1
 have h4: ∀x:Alg G p,(∀g c,x.co (G.mul (G.mul g c) (G.inv g))=x.co c)→T x=nc n*x.co c:=by
  intro x hx
  show fs _=_
  rw[←HU];exact bp fun g=>hx g c
 rw[h4 _ VV,h4 _ Od]at h1
 exact dH hp hn h1
def qK(x:Alg G p):Fin p:=fs x.co
def lg:Alg G p:=⟨fun _=>1⟩
theorem Ct(x:Alg G p)(c:Fin n):(x*lg).co c=qK x:=by
 rw[lN];exact bp fun a=>bL _
def su(G:Gp n)(hp:gR p)(VW:0<n)(sr:n<p)(pV: ∀g,G.pow g p=g):Su p (Alg G p) (Fin n) where
 hp:=hp
 pA:=ig
 U:=univ
 ku:=AZ
 eP:=vk
 t x:=x.co G.one
 AN x y:=rfl
 mM:=mM
 gs:=List.finRange n
 AO:=bA n
 dl:=dl
 di g:=dl (G.inv g)
 NY g:=by rw[vj,G.inv_mul,zk]
 SK g:=by rw[vj,G.fk,zk]
 Pj g:=by rw[Oc,pV]
 expand x:=by
  conv=>lhs;rw[expand x]
  apply bp
  intro g
  rw[pE,G.inv_inv,G.one_mul]
 Ea x:=by
  conv=>lhs;rw[expand x,←lM (fun g=>io (x.co g)*dl g) G.inv G.inv G.inv_inv G.inv_inv]
  apply bp
  intro g
  rw[pE,G.one_mul]
 AQ x z:=lh x z
 pC z hz:=pC hp (by
  rw[eD,eH,aM sr];omega) pV z hz
 Pk:=by
  rw[cx,eD,eH,aM sr];omega
 qK:=qK
 qU x y:=sE _ _
 y8 x y:=by
  show fs (fun c=>fs (fun a=>x.co a*y.co (G.mul (G.inv a) c)))=fs x.co*fs y.co
  rw[pD,eT]
  apply bp
  intro a
  rw[eS,←lM (fun c=>x.co a*y.co (G.mul (G.inv a) c)) (fun c=>G.mul a c) (fun c=>G.mul (G.inv a) c) (G.inv_mul_cancel a) (G.mul_inv_cancel a)]
  exact bp fun c=>by show x.co a*y.co (G.mul (G.inv a) (G.mul a c))=_;rw[G.inv_mul_cancel]
 y9:=by
  show fs (1:Alg G p).co=1
  rw[ft _ G.one]
  ·rw[oF,aO rfl]
  ·intro b hb;rw[oF,aI hb]
 lg:=lg
 HI:=by
  intro h
  have h1:=ba (fun x:Alg G p=>x.co G.one) h
  simp only[rf]at h1
  have h2:=ba Fin.val h1
  have h3:(1:Fin p).val=1 % p:=rfl
  have h4:((lg:Alg G p).co G.one).val=1 % p:=rfl
  rw[h4,kc,aM hp.1]at h2
  omega
 qV x:=by
  apply ext;intro c
  rw[Ct,nU];exact(bL _).symm
 jH x:=(dk lg).2 (fun _ _=>rfl) x
 NZ:=by rw[A0,cx]
end Alg
end Ch
end
section
namespace Ch
open Lean.Grind (Semiring Ring CommRing CommSemiring)
structure Cl{n:Nat}(G:Gp n)(r:Nat) where
 cl:Fin n→Fin r
 rep:Fin r→Fin n
 fS: ∀i,cl (rep i)=i
 FT: ∀a x,cl (G.mul (G.mul x a) (G.inv x))=cl a
 same: ∀a b,cl a=cl b→∃x,b=G.mul (G.mul x a) (G.inv x)
namespace Cl
variable{n r:Nat}{G:Gp n}(C:Cl G r){p:Nat} [NeZero p]
def size(i:Fin r):Nat:=((List.finRange n).filter (fun a=>decide (C.cl a=i))).length
def opp(i:Fin r):Fin r:=C.cl (G.inv (C.rep i))
def ways(i j:Fin r)(c:Fin n):Nat:=((List.finRange n).filter (fun x=>decide (C.cl x=i)&&decide (C.cl (G.mul (G.inv x) c)=j))).length
theorem jj{β:Type}(F:Fin n→β)(h: ∀g c,F (G.mul (G.mul g c) (G.inv g))=F c)(a:Fin n):F a=F (C.rep (C.cl a)):=by
 obtain⟨x,hx⟩:=C.same (C.rep (C.cl a)) a (C.fS _)
 conv=>lhs;rw[hx,h]
theorem vm(a:Fin n):C.cl (G.inv a)=C.opp (C.cl a):=by
 apply C.jj (fun a=>C.cl (G.inv a))
 intro g c
 show C.cl (G.inv (G.mul (G.mul g c) (G.inv g)))=_
 rw[G.inv_mul_rev,G.inv_mul_rev,G.inv_inv,←G.assoc,C.FT]
theorem A1(a b:Fin n):C.cl (G.mul a b)=C.cl (G.mul b a):=by
 have:=C.FT (G.mul b a) a
 rw[←G.assoc a b a,G.assoc (G.mul a b) a,G.fk,G.mul_one]at this
 exact this
theorem vn{a:Fin n}(h:C.cl a=C.cl G.one):a=G.one:=by
 obtain⟨x,hx⟩:=C.same G.one a h.symm
 rw[hx,G.mul_one,G.fk]
theorem Ee:C.rep (C.cl G.one)=G.one:=C.vn (C.fS _)
theorem FU{R:Type} [Semiring R]{α:Type}(l:List α)(q:α→Bool):lsum l (fun a=>if q a=true then(1:R)else 0)=nc (l.filter q).length:=by
 rw[←jF l q (fun _=>(1:R)),jg,bL]
theorem HY{R:Type} [Semiring R](F:Fin r→R):fs (fun a:Fin n=>F (C.cl a))=fs (fun i:Fin r=>nc (C.size i)*F i):=by
 have h1:fs (fun a:Fin n=>F (C.cl a))=fs (fun a:Fin n=>lsum (List.finRange r) (fun i=>if decide (C.cl a=i)=true then F i else 0)):=by
  apply bp
  intro a
  symm
  rw[fA (bA r) (ck (C.cl a))]
  ·simp
  ·intro b _ hb
   rw[aI];simp;exact fun e=>hb e.symm
 rw[h1]
 unfold fs
 rw[jf]
 apply bc
 intro i _
 rw[←jF (List.finRange n) (fun a=>decide (C.cl a=i)) (fun _=>F i),jg]
 rfl
theorem x8{R:Type} [Semiring R](F:Fin n→R)(h: ∀g c,F (G.mul (G.mul g c) (G.inv g))=F c):fs F=fs (fun i:Fin r=>nc (C.size i)*F (C.rep i)):=by
 rw[←C.HY (fun i=>F (C.rep i))]
 exact bp fun a=>C.jj F h a
theorem size_pos(i:Fin r):0<C.size i:=dA (bg.2 ⟨ck (C.rep i),by simp[C.fS]⟩)
theorem size_le(i:Fin r):C.size i≤n:=by
 have:=eB (fun a=>decide (C.cl a=i)) (List.finRange n)
 rw[cx]at this;exact this
theorem rh:C.size (C.cl G.one)=1:=by
 have h:(List.finRange n).filter (fun a=>decide (C.cl a=C.cl G.one))=[G.one]∨True:=.inr trivial
 have h2:((List.finRange n).filter (fun a=>decide (C.cl a=C.cl G.one))).Perm [G.one]:=by
  apply cX (cE _ (bA n)) (by simp)
  intro a
  simp only[bg,ck,aG,true_and,aQ]
  exact⟨fun h=>C.vn h,fun h=>by rw[h]⟩
 exact h2.length_eq
theorem rj(i:Fin r):C.size (C.opp i)=C.size i:=by
 have h2:(((List.finRange n).filter (fun a=>decide (C.cl a=i))).map G.inv).Perm ((List.finRange n).filter (fun a=>decide (C.cl a=C.opp i))):=by
  apply cX
  ·apply cR (cE _ (bA n))
   intro a _ b _ e
   rw[←G.inv_inv a,e,G.inv_inv]
  ·exact cE _ (bA n)
  ·intro a
   simp only[ay,bg,ck,aG,true_and]
   constructor
   ·rintro⟨b,rfl,rfl⟩;exact C.vm b
   ·intro h
    refine⟨G.inv a,?_,G.inv_inv a⟩
    rw[C.vm,h]
    show C.cl (G.inv (C.rep (C.opp i)))=i
    rw[show C.rep (C.opp i)=C.rep (C.cl (G.inv (C.rep i)))from rfl]
    have:=C.vm (G.inv (C.rep i))
    rw[G.inv_inv,C.fS]at this
    exact this.symm
 have:=h2.length_eq
 rw[ae]at this
 exact this.symm
def cs(i:Fin r):Alg G p:=⟨fun a=>if C.cl a=i then 1 else 0⟩
theorem dh(i:Fin r):Su.aT (C.cs i:Alg G p):=by
 rw[Alg.dk]
 intro g c
 show(if C.cl (G.mul (G.mul g c) (G.inv g))=i then(1:Fin p)else 0)=_
 rw[C.FT];rfl
theorem pF(i j:Fin r)(c:Fin n):(C.cs i*C.cs j:Alg G p).co c=nc (C.ways i j c):=by
 rw[Alg.lN]
 have h1: ∀a,(C.cs i:Alg G p).co a*(C.cs j:Alg G p).co (G.mul (G.inv a) c)=if(decide (C.cl a=i)&&decide (C.cl (G.mul (G.inv a) c)=j))=true then(1:Fin p)else 0:=by
  intro a
  show(if C.cl a=i then(1:Fin p)else 0)*(if C.cl (G.mul (G.inv a) c)=j then(1:Fin p)else 0)=_
  by_cases e1:C.cl a=i<;>by_cases e2:C.cl (G.mul (G.inv a) c)=j<;>simp[e1,e2,aP,az,aR]
 rw[bp h1,fs,FU]
 rfl
theorem Cu{x y:Alg G p}(hx:Su.aT x)(hy:Su.aT y)(h: ∀i,x.co (C.rep i)=y.co (C.rep i)):x=y:=by
 apply Alg.ext;intro c
 rw[C.jj x.co ((Alg.dk x).1 hx),C.jj y.co ((Alg.dk y).1 hy),h]
theorem pG{z:Alg G p}(hz:Su.aT z):z=fs (fun i:Fin r=>io (z.co (C.rep i))*C.cs i):=by
 apply Alg.ext;intro c
 rw[fs,Alg.qi,fA (bA r) (ck (C.cl c))]
 ·rw[Alg.nU]
  show _=z.co (C.rep (C.cl c))*(if C.cl c=C.cl c then 1 else 0)
  rw[aO rfl,bL]
  exact C.jj z.co ((Alg.dk z).1 hz) c
 ·intro i _ hi
  rw[Alg.nU]
  show _*(if C.cl c=i then(1:Fin p)else 0)=0
  rw[aI (fun e=>hi e.symm),aR]
include C in
theorem rk(hp:gR p):cA (Alg.univ:List (Alg G p)) Su.aT=p^r:=by
 have h:=gu (U:=(Alg.univ:List (Alg G p))) Alg.AZ Alg.vk (P:=Su.aT) (l:=(tuples r (List.finRange p)).map (fun l=>(⟨fun a=>l.getD (C.cl a).val 0⟩:Alg G p)))
  (by
   apply cR (kb (bA p) r)
   intro l hl m hm e
   have h1:=(eG.1 hl).1
   have h2:=(eG.1 hm).1
   apply bO (by rw[h1,h2])
   intro i hi hj
   have h3:=ba (fun x:Alg G p=>x.co (C.rep ⟨i,by omega⟩)) e
   simp only[C.fS]at h3
   rw[Alg.cP _ _ _ hi,Alg.cP _ _ _ hj]at h3
   exact h3)
  (by
   intro z
   rw[ay]
   constructor
   ·rintro⟨l,hl,rfl⟩
    rw[Alg.dk]
    intro g c
    show l.getD (C.cl (G.mul (G.mul g c) (G.inv g))).val 0=l.getD (C.cl c).val 0
    rw[C.FT]
   ·intro hz
    refine⟨(List.finRange r).map (fun i=>z.co (C.rep i)),eG.2 ⟨by simp,fun a _=>ck a⟩,?_⟩
    apply Alg.ext;intro c
    show((List.finRange r).map (fun i=>z.co (C.rep i))).getD (C.cl c).val 0=z.co c
    rw[Alg.cP _ _ _ (by simp)]
    simp only[bY,xp]
    exact(C.jj z.co ((Alg.dk z).1 hz) c).symm)
 rw[h,ae,p8,cx]
structure Cv(w:Fin r→Fin p):Prop where
 one:w (C.cl G.one)=1
 mul: ∀i j,w i*w j=fs (fun c:Fin r=>nc (C.ways i j (C.rep c))*w c)
def iH(w:Fin r→Fin p)(z:Alg G p):Fin p:=fs (fun i:Fin r=>z.co (C.rep i)*w i)
theorem zl(w:Fin r→Fin p)(i:Fin r):C.iH w (C.cs i)=w i:=by
 rw[iH,ft _ i]
 ·show(if C.cl (C.rep i)=i then(1:Fin p)else 0)*w i=w i
  rw[C.fS,aO rfl,aP]
 ·intro b hb
  show(if C.cl (C.rep b)=i then(1:Fin p)else 0)*w b=0
  rw[C.fS,aI hb,az]
theorem Cw(i j:Fin r):(C.cs i*C.cs j:Alg G p)=fs (fun c:Fin r=>io (nc (C.ways i j (C.rep c)):Fin p)*C.cs c):=by
 rw[C.pG (Su.dP (C.dh i) (C.dh j))]
 apply bp
 intro c
 rw[C.pF]
theorem sG{om:Alg G p→Fin p}(W:Su.l7 om):C.Cv (fun i=>om (C.cs i)):=by
 constructor
 ·show om (C.cs (C.cl G.one))=1
  have:(C.cs (C.cl G.one):Alg G p)=1:=by
   apply Alg.ext;intro c
   rw[Alg.oF]
   show(if C.cl c=C.cl G.one then(1:Fin p)else 0)=_
   by_cases h:c=G.one
   ·rw[aO h,aO (by rw[h])]
   ·rw[aI h,aI (fun e=>h (C.vn e))]
  rw[this,W.one]
 ·intro i j
  show om (C.cs i)*om (C.cs j)=_
  rw[←W.mul _ _ (C.dh i) (C.dh j),C.Cw,fs,(Su.sC W _ _ (fun c _=>Su.dP (Su.f7 _) (C.dh c))).2]
  apply bp
  intro c
  rw[W.mul _ _ (Su.f7 _) (C.dh c),Su.vh W]
theorem vo{x y:Alg G p}(hx:Su.aT x)(hy:Su.aT y)(c:Fin n):
  (x*y).co c=fs (fun i:Fin r=>fs (fun j:Fin r=>x.co (C.rep i)*y.co (C.rep j)*nc (C.ways i j c))):=by
 have h1:x*y=fs (fun i:Fin r=>fs (fun j:Fin r=>io (x.co (C.rep i)*y.co (C.rep j))*(C.cs i*C.cs j))):=by
  conv=>lhs;rw[C.pG hx,C.pG hy]
  rw[eT]
  apply bp
  intro i
  rw[eS]
  apply bp
  intro j
  rw[ji Alg.ig,aa,←aa (C.cs i),←dv _ (C.cs i),aa (io _) (C.cs i),←aa (io (x.co (C.rep i)))]
 rw[h1,fs,Alg.qi]
 apply bp
 intro i
 rw[fs,Alg.qi]
 apply bp
 intro j
 rw[Alg.nU,C.pF]
theorem sH{w:Fin r→Fin p}(H:C.Cv w):Su.l7 (C.iH w):=by
 constructor
 ·intro x y _ _
  rw[iH,iH,iH,←sE]
  exact bp fun i=>by rw[Alg.HW,bX]
 ·intro x y hx hy
  rw[iH,iH,iH]
  have h1: ∀c,(x*y).co (C.rep c)*w c=fs (fun i:Fin r=>fs (fun j:Fin r=>x.co (C.rep i)*y.co (C.rep j)*(nc (C.ways i j (C.rep c))*w c))):=by
   intro c
   rw[C.vo hx hy,eT]
   apply bp;intro i
   rw[eT]
   exact bp fun j=>aa _ _ _
  rw[bp h1,eT,pD]
  apply bp
  intro i
  rw[eS,pD]
  apply bp
  intro j
  rw[←eS,←H.mul]
  grind
 ·rw[iH,ft _ (C.cl G.one)]
  ·rw[C.Ee,Alg.oF,aO rfl,H.one,aP]
  ·intro b hb
   rw[Alg.oF,aI,az]
   intro e
   apply hb
   rw[←C.fS b,e]
theorem qj{om:Alg G p→Fin p}(W:Su.l7 om){z:Alg G p}(hz:Su.aT z):om z=C.iH (fun i=>om (C.cs i)) z:=by
 conv=>lhs;rw[C.pG hz]
 rw[fs,(Su.sC W _ _ (fun c _=>Su.dP (Su.f7 _) (C.dh c))).2,iH]
 apply bp
 intro i
 rw[W.mul _ _ (Su.f7 _) (C.dh i),Su.vh W]
def norm(iv:Fin r→Fin p)(w:Fin r→Fin p):Fin p:=fs (fun i:Fin r=>w i*(w (C.opp i)*iv i))
theorem HZ(s:Su p (Alg G p) (Fin n))(iv:Fin r→Fin p)(Cy: ∀i,nc (C.size i)*iv i=1)(vp:iv (C.cl G.one)=1)(uo: ∀i,iv (C.opp i)=iv i)
  {w:Fin r→Fin p}(H:C.Cv w){e:Alg G p}(P:Prim (Su.aT (A:=Alg G p)) e)(he: ∀z,Su.aT z→z*e=io (C.iH w z)*e)(FV:C.iH w e=1)(c0:Fin n):C.norm iv w*e.co c0=w (C.cl (G.inv c0))*iv (C.cl (G.inv c0)):=by
 have W:=C.sH H
 let ph:Fin n→Fin p:=fun a=>w (C.cl a)*iv (C.cl a)
 have VX: ∀g c,ph (G.mul (G.mul g c) (G.inv g))=ph c:=by
  intro g c;show w (C.cl _)*iv (C.cl _)=_;rw[C.FT]
 have phm: ∀a b,ph (G.mul a b)=ph (G.mul b a):=by
  intro a b;show w (C.cl _)*iv (C.cl _)=w (C.cl _)*iv (C.cl _);rw[C.A1]
 have x9: ∀z:Alg G p,Su.aT z→C.iH w z=fs (fun a=>z.co a*ph a):=by
  intro z hz
  have Od:=(Alg.dk z).1 hz
  rw[C.x8 (fun a=>z.co a*ph a) (fun g c=>by simp only[Od,VX]),iH]
  apply bp
  intro i
  show z.co (C.rep i)*w i=nc (C.size i)*(z.co (C.rep i)*(w (C.cl (C.rep i))*iv (C.cl (C.rep i))))
  rw[C.fS]
  have:=Cy i
  grind
 let u:Alg G p:=⟨fun a=>ph (G.inv a)⟩
 have hu:Su.aT u:=by
  rw[Alg.dk]
  intro g c
  show ph (G.inv (G.mul (G.mul g c) (G.inv g)))=ph (G.inv c)
  rw[G.inv_mul_rev,G.inv_mul_rev,G.inv_inv,←G.assoc,VX]
 have hzu: ∀z:Alg G p,Su.aT z→z*u=io (C.iH w z)*u:=by
  intro z hz
  have Od:=(Alg.dk z).1 hz
  apply Alg.ext;intro c
  rw[Alg.lN,Alg.nU]
  show fs (fun a=>z.co a*ph (G.inv (G.mul (G.inv a) c)))=C.iH w z*ph (G.inv c)
  have e0: ∀a,z.co a*ph (G.inv (G.mul (G.inv a) c))=z.co a*ph (G.mul a (G.inv c)):=by
   intro a;rw[G.inv_mul_rev,G.inv_inv,phm]
  rw[bp e0]
  generalize G.inv c=b
  have h1:C.iH w (z*C.cs (C.cl b))=C.iH w z*w (C.cl b):=by
   rw[W.mul _ _ hz (C.dh _),C.zl]
  rw[x9 _ (Su.dP hz (C.dh _))]at h1
  have h2:fs (fun g=>(z*C.cs (C.cl b)).co g*ph g)=fs (fun h=>(C.cs (C.cl b):Alg G p).co h*fs (fun a=>z.co a*ph (G.mul a h))):=by
   have e1: ∀g,(z*C.cs (C.cl b)).co g*ph g=fs (fun a=>z.co a*(C.cs (C.cl b):Alg G p).co (G.mul (G.inv a) g)*ph g):=by
    intro g;rw[Alg.lN,eT]
   rw[bp e1,pD]
   have e2: ∀h,(C.cs (C.cl b):Alg G p).co h*fs (fun a=>z.co a*ph (G.mul a h))=fs (fun a=>(C.cs (C.cl b):Alg G p).co h*(z.co a*ph (G.mul a h))):=by
    intro h;rw[eS]
   rw[bp e2,pD (fun h a=>(C.cs (C.cl b):Alg G p).co h*(z.co a*ph (G.mul a h)))]
   apply bp
   intro a
   rw[←lM (fun g=>z.co a*(C.cs (C.cl b):Alg G p).co (G.mul (G.inv a) g)*ph g) (fun h=>G.mul a h) (fun h=>G.mul (G.inv a) h) (G.inv_mul_cancel a) (G.mul_inv_cancel a)]
   apply bp
   intro h
   show z.co a*(C.cs (C.cl b):Alg G p).co (G.mul (G.inv a) (G.mul a h))*ph (G.mul a h)=_
   rw[G.inv_mul_cancel]
   grind
  have h3: ∀g c',(fun h=>(C.cs (C.cl b):Alg G p).co h*fs (fun a=>z.co a*ph (G.mul a h))) (G.mul (G.mul g c') (G.inv g))=(fun h=>(C.cs (C.cl b):Alg G p).co h*fs (fun a=>z.co a*ph (G.mul a h))) c':=by
   intro g c'
   show(C.cs (C.cl b):Alg G p).co (G.mul (G.mul g c') (G.inv g))*fs (fun a=>z.co a*ph (G.mul a (G.mul (G.mul g c') (G.inv g))))=(C.cs (C.cl b):Alg G p).co c'*fs (fun a=>z.co a*ph (G.mul a c'))
   rw[(Alg.dk _).1 (C.dh (C.cl b)) g c']
   congr 1
   rw[←lM (fun a=>z.co a*ph (G.mul a (G.mul (G.mul g c') (G.inv g)))) (fun a=>G.mul (G.mul g a) (G.inv g)) (fun a=>G.mul (G.mul (G.inv g) a) g)
    (by intro a;simp only[G.assoc];rw[G.inv_mul_cancel,G.inv_mul,G.mul_one]) (by intro a;simp only[G.assoc];rw[G.mul_inv_cancel,G.fk,G.mul_one])]
   apply bp
   intro a
   show z.co (G.mul (G.mul g a) (G.inv g))*ph (G.mul (G.mul (G.mul g a) (G.inv g)) (G.mul (G.mul g c') (G.inv g)))=_
   rw[Od]
   congr 1
   have:G.mul (G.mul (G.mul g a) (G.inv g)) (G.mul (G.mul g c') (G.inv g))=G.mul (G.mul g (G.mul a c')) (G.inv g):=by
    simp only[G.assoc];rw[G.inv_mul_cancel]
   rw[this,VX]
  rw[h2,C.x8 _ h3,ft _ (C.cl b)]at h1
  ·have h4:(C.cs (C.cl b):Alg G p).co (C.rep (C.cl b))=1:=by
    show(if C.cl (C.rep (C.cl b))=C.cl b then(1:Fin p)else 0)=1
    rw[C.fS,aO rfl]
   rw[h4,aP]at h1
   have h5:=C.jj (fun h=>fs (fun a=>z.co a*ph (G.mul a h))) (by
    intro g c'
    show fs (fun a=>z.co a*ph (G.mul a (G.mul (G.mul g c') (G.inv g))))=fs (fun a=>z.co a*ph (G.mul a c'))
    rw[←lM (fun a=>z.co a*ph (G.mul a (G.mul (G.mul g c') (G.inv g)))) (fun a=>G.mul (G.mul g a) (G.inv g)) (fun a=>G.mul (G.mul (G.inv g) a) g)
     (by intro a;simp only[G.assoc];rw[G.inv_mul_cancel,G.inv_mul,G.mul_one]) (by intro a;simp only[G.assoc];rw[G.mul_inv_cancel,G.fk,G.mul_one])]
    apply bp
    intro a
    show z.co (G.mul (G.mul g a) (G.inv g))*ph (G.mul (G.mul (G.mul g a) (G.inv g)) (G.mul (G.mul g c') (G.inv g)))=_
    rw[Od]
    congr 1
    have:G.mul (G.mul (G.mul g a) (G.inv g)) (G.mul (G.mul g c') (G.inv g))=G.mul (G.mul g (G.mul a c')) (G.inv g):=by
     simp only[G.assoc];rw[G.inv_mul_cancel]
    rw[this,VX]) b
   rw[h5]
   show _=C.iH w z*(w (C.cl b)*iv (C.cl b))
   have h6:=Cy (C.cl b)
   generalize fs (fun a=>z.co a*ph (G.mul a (C.rep (C.cl b))))=Y at*
   have:Y=(nc (C.size (C.cl b))*iv (C.cl b))*Y:=by rw[h6,aP]
   grind
  ·intro i hi
   have:(C.cs (C.cl b):Alg G p).co (C.rep i)=0:=by
    show(if C.cl (C.rep i)=C.cl b then(1:Fin p)else 0)=0
    rw[C.fS,aI hi]
   rw[this,az,aR]
 have h1:u=io (C.iH w u)*e:=by
  rw[←he u hu,hu,hzu e P.mem,FV,jh Alg.ig,aP]
 have h2:C.iH w u=C.norm iv w:=by
  rw[iH,norm]
  apply bp
  intro i
  show w (C.cl (G.inv (C.rep i)))*iv (C.cl (G.inv (C.rep i)))*w i=_
  rw[show C.cl (G.inv (C.rep i))=C.opp i from rfl,uo]
  grind
 have h3:=ba (fun x:Alg G p=>x.co c0) h1
 simp only[Alg.nU]at h3
 rw[←h2,←h3]
theorem Ia(s:Su p (Alg G p) (Fin n))(iv:Fin r→Fin p)(Cy: ∀i,nc (C.size i)*iv i=1)(vp:iv (C.cl G.one)=1)(uo: ∀i,iv (C.opp i)=iv i)
  {w:Fin r→Fin p}(H:C.Cv w){e:Alg G p}(P:Prim (Su.aT (A:=Alg G p)) e)(he: ∀z,Su.aT z→z*e=io (C.iH w z)*e)(FV:C.iH w e=1):C.norm iv w*e.co G.one=1:=by
 rw[C.HZ s iv Cy vp uo H P he FV,G.inv_one,H.one,vp,aP]
theorem vq{A:Type} [Ring A]{S:A→Prop}{e:A}{es:List A}(Q:Parts S e es):es.Nodup:=by
 apply Q.um.imp_of_mem
 intro a b ha hb h e2
 subst e2
 exact(Q.prim a ha).ne (by rw[←(Q.prim a ha).idem,h.1])
theorem Py(hp:gR p)(VW:0<n)(g6:n≤24)(sr:n<p)(pV: ∀g,G.pow g p=g)(iv:Fin r→Fin p)(Cy: ∀i,nc (C.size i)*iv i=1):
  ∃Ws:List (Fin r→Fin p),Ws.Nodup∧Ws.length=r∧(∀w,w∈Ws↔C.Cv w)∧∀w,C.Cv w→∃d,1≤d∧d*d≤n∧nc (d*d)*C.norm iv w=nc n:=by
 let s:=Alg.su G hp VW sr pV
 have vp:iv (C.cl G.one)=1:=by
  have:=Cy (C.cl G.one)
  rw[C.rh,gN,aP]at this
  exact this
 have uo: ∀i,iv (C.opp i)=iv i:=by
  intro i
  have h1:=Cy i
  have h2:=Cy (C.opp i)
  rw[C.rj]at h2
  grind
 obtain⟨es,Q⟩:=parts s.ku s.eP (Su.aT (A:=Alg G p)) (fun _ _=>Su.oC) _ 1 Su.lj (aP 1) (aq _)
 have hlen:es.length=r:=by
  have h1:=s.rb Q
  have h2:=C.rk (p:=p) hp
  exact zf hp.1 (h1.symm.trans h2)
 have hex: ∀e:Alg G p,∃om:Alg G p→Fin p,e∈es→Su.l7 om∧∀z,Su.aT z→z*e=io (om z)*e:=by
  intro e
  by_cases he:e∈es
  ·obtain⟨om,h⟩:=s.vi (Q.prim e he)
   exact⟨om,fun _=>h⟩
  ·exact⟨fun _=>0,fun h=>absurd h he⟩
 obtain⟨om,x9⟩: ∃om:Alg G p→Alg G p→Fin p,∀e∈es,Su.l7 (om e)∧∀z,Su.aT z→z*e=io (om e z)*e:=
  ⟨fun e=>Classical.choose (hex e),fun e he=>dI (hex e) he⟩
 have Ib: ∀e∈es,om e e=1:=by
  intro e he
  have P:=Q.prim e he
  apply oB hp Alg.ig P.ne
  rw[←(x9 e he).2 e P.mem,P.idem,jh Alg.ig,aP]
 refine⟨es.map (fun e i=>om e (C.cs i)),?_,by rw[ae,hlen],?_,?_⟩
 ·apply cR (vq Q)
  intro a ha b hb h
  have Pa:=Q.prim a ha
  have Pb:=Q.prim b hb
  apply ai
  intro df
  have h1:om a b=om b b:=by
   rw[C.qj (x9 a ha).1 Pb.mem,C.qj (x9 b hb).1 Pb.mem,h]
  rw[Ib b hb]at h1
  have h2:=(x9 a ha).2 b Pb.mem
  rw[h1,jh Alg.ig,aP]at h2
  have h3:a*b=0∧b*a=0:=by
   have SJ:=Q.um
   have: ∀(l:List (Alg G p)),l.Pairwise (fun a b=>a*b=0∧b*a=0)→a∈l→b∈l→a*b=0∧b*a=0:=by
    intro l hl ha hb
    induction l with
    |nil=>simp at ha
    |cons c l ih=>
     rw[cu]at hl
     rcases aH.1 ha with rfl|AG
     ·rcases aH.1 hb with rfl|ke
      ·exact absurd rfl df
      ·exact hl.1 b ke
     ·rcases aH.1 hb with rfl|ke
      ·exact(hl.1 a AG).symm
      ·exact ih hl.2 AG ke
   exact this es SJ ha hb
  rw[h3.2]at h2
  exact Pa.ne h2.symm
 ·intro w
  rw[ay]
  constructor
  ·rintro⟨e,he,rfl⟩;exact C.sG (x9 e he).1
  ·intro H
   obtain⟨e,he,h1,h2⟩:=s.AY Q (C.sH H)
   refine⟨e,he,?_⟩
   funext i
   apply oB hp Alg.ig (Q.prim e he).ne
   rw[←(x9 e he).2 _ (C.dh i),h2 _ (C.dh i),C.zl]
 ·intro w H
  obtain⟨e,he,h1,h2⟩:=s.AY Q (C.sH H)
  obtain⟨d,vf,hd2,Hv⟩:=s.qa (by show(List.finRange n).length≤24;rw[cx];exact g6) (Q.prim e he)
  have h3:=C.Ia s iv Cy vp uo H (Q.prim e he) h2 h1
  have W6:s.gs.length=n:=cx
  rw[W6]at hd2 Hv
  refine⟨d,vf,hd2,?_⟩
  have ht:s.t e=e.co G.one:=rfl
  rw[Hv,ht]
  grind
end Cl
end Ch
end
section
namespace Sp
open Rd01 Ch
theorem cP{β:Type}(l:List β)(d:β)(i:Nat)(h:i<l.length):l.getD i d=l[i]:=by
 rw[af,aj h,de]
theorem dt{β:Type}(n:Nat)(f:Nat→β)(d:β)(i:Nat)(h:i<n):((List.range n).map f).getD i d=f i:=by
 rw[cP _ _ _ (by simpa using h)];simp
structure jO(g:Grp):Prop where
 pos:1≤g.n
 len:g.t.length=g.n*g.n
 lt: ∀x∈g.t,x<g.n
 ya: ∀a,a<g.n→times (rowsOf g) 0 a=a
 yb: ∀a,a<g.n→times (rowsOf g) a 0=a
 inv: ∀a,a<g.n→∃b,b<g.n∧times (rowsOf g) a b=0
 assoc: ∀a b c,a<g.n→b<g.n→c<g.n→times (rowsOf g) (times (rowsOf g) a b) c=times (rowsOf g) a (times (rowsOf g) b c)
theorem W7{g:Grp}(h:isGroup g=true):jO g:=by
 simp only[isGroup,all_,aN,aG,aW,cS,aD,cV]at h
 obtain⟨h1,h2,h3,h4,h5,h6⟩:=h
 exact⟨h1,h2,h3,fun a ha=>(h4 a ha).1,fun a ha=>(h4 a ha).2,h5,fun a b c ha hb hc=>h6 a ha b hb c hc⟩
theorem Cz{g:Grp}(h:jO g):isGroup g=true:=by
 simp only[isGroup,all_,aN,aG,aW,cS,aD,cV]
 exact⟨h.pos,h.len,h.lt,fun a ha=>⟨h.ya a ha,h.yb a ha⟩,h.inv,fun a ha b hb c hc=>h.assoc a b c ha hb hc⟩
theorem CA(g:Grp)(a:Nat)(ha:a<g.n):(rowsOf g).getD a []=(g.t.drop (a*g.n)).take g.n:=by
 rw[rowsOf,all_,dt _ _ _ _ ha]
theorem CB{n a b:Nat}(ha:a<n)(hb:b<n):a*n+b<n*n:=by
 have:(a+1)*n≤n*n:=eN n (by omega)
 rw[qN]at this
 omega
theorem A2{g:Grp}(hlen:g.t.length=g.n*g.n){a b:Nat}(ha:a<g.n)(hb:b<g.n):
  times (rowsOf g) a b=g.t[a*g.n+b]'(by rw[hlen];exact CB ha hb):=by
 have h1:=CB ha hb
 rw[times,CA g a ha,cP]
 ·rw[List.getElem_take,qO]
 ·rw[cT,eF,hlen];omega
theorem kx{g:Grp}(h:jO g){a b:Nat}(ha:a<g.n)(hb:b<g.n):times (rowsOf g) a b<g.n:=by
 rw[A2 h.len ha hb]
 exact h.lt _ (cn _)
theorem CD(g:Grp){a:Nat}(ha:a<g.n):(factsOf g).inverse a=((List.range g.n).find? fun b=>times (rowsOf g) a b==0).getD 0:=by
 show(List.map _ (all_ g.n)).getD a 0=_
 rw[all_,dt _ _ _ _ ha]
theorem fE{g:Grp}(h:jO g){a:Nat}(ha:a<g.n):(factsOf g).inverse a<g.n∧times (rowsOf g) a ((factsOf g).inverse a)=0:=by
 rw[CD g ha]
 obtain⟨b,hb,uG⟩:=h.inv a ha
 have h1:((List.range g.n).find? fun b=>times (rowsOf g) a b==0).isSome:=by
  rw[List.find?_isSome]
  exact⟨b,by simpa using hb,by simpa using uG⟩
 obtain⟨c,hc⟩:=dM.1 h1
 rw[hc,de]
 have h2:=List.find?_some hc
 have h3:=List.mem_of_find?_eq_some hc
 exact⟨by simpa using h3,by simpa using h2⟩
def gp{g:Grp}(h:jO g):Gp g.n where
 mul a b:=⟨times (rowsOf g) a.val b.val,kx h a.isLt b.isLt⟩
 one:=⟨0,h.pos⟩
 inv a:=⟨(factsOf g).inverse a.val,(fE h a.isLt).1⟩
 assoc a b c:=du (h.assoc _ _ _ a.isLt b.isLt c.isLt)
 one_mul a:=du (h.ya _ a.isLt)
 mul_one a:=du (h.yb _ a.isLt)
 fk a:=du (fE h a.isLt).2
 inv_mul a:=by
  apply du
  show times (rowsOf g) ((factsOf g).inverse a.val) a.val=0
  have h1:=fE h a.isLt
  have h2:=fE h h1.1
  generalize (factsOf g).inverse a.val=b at*
  generalize (factsOf g).inverse b=c at*
  have h3:times (rowsOf g) (times (rowsOf g) a.val b) c=times (rowsOf g) a.val (times (rowsOf g) b c):=h.assoc _ _ _ a.isLt h1.1 h2.1
  rw[h1.2,h2.2,h.ya _ h2.1,h.yb _ a.isLt]at h3
  rw[←h3];exact h2.2
theorem jQ{g:Grp}(h:jO g){a b:Nat}(ha:a<g.n)(hb:b<g.n):(factsOf g).mul a b<g.n:=kx h ha hb
theorem jR{g:Grp}(h:jO g){a:Nat}(ha:a<g.n):(factsOf g).inverse a<g.n:=(fE h ha).1
theorem zm(l:List Nat)(m:Nat):l.foldl min m≤m∧∀x∈l,l.foldl min m≤x:=by
 induction l generalizing m with
 |nil=>simp
 |cons a l ih=>
  have h:=ih (min m a)
  rw[iu]
  refine⟨by have:=h.1;omega,?_⟩
  intro x hx
  rcases aH.1 hx with rfl|hx
  ·have:=h.1;omega
  ·exact h.2 x hx
theorem xG(l:List Nat)(m:Nat):l.foldl min m=m∨l.foldl min m∈l:=by
 induction l generalizing m with
 |nil=>simp
 |cons a l ih=>
  rw[iu]
  rcases ih (min m a)with h|h
  ·by_cases hm:m≤a
   ·left;rw[h];omega
   ·right;rw[h,Nat.min_eq_right (by omega)];simp
  ·right;simp[h]
theorem least_le{l:List Nat}{x:Nat}(hx:x∈l):least l≤x:=(zm l _).2 x hx
theorem sI{l:List Nat}(h:l≠[]):least l∈l:=by
 cases l with
 |nil=>exact absurd rfl h
 |cons a l=>
  rcases xG (a::l) a with h|h
  ·show List.foldl min a (a::l)∈_
   rw[h];simp
  ·exact h
theorem A3{l m:List Nat}(h: ∀x,x∈l↔x∈m):least l=least m:=by
 by_cases hl:l=[]
 ·have hm:m=[]:=by
   apply Hs.2
   intro x hx;rw[←h,hl]at hx;simp at hx
  rw[hl,hm]
 ·have hm:m≠[]:=by
   intro hm
   apply hl
   apply Hs.2
   intro x hx;rw[h,hm]at hx;simp at hx
  apply Nat.le_antisymm
  ·exact least_le ((h _).2 (sI hm))
  ·exact least_le ((h _).1 (sI hl))
def cj(g:Grp)(x a:Nat):Nat:=times (rowsOf g) (times (rowsOf g) x a) ((factsOf g).inverse x)
def dQ(g:Grp)(a:Nat):Nat:=least ((List.range g.n).map fun x=>cj g x a)
theorem rm(g:Grp):(factsOf g).reps=(List.range g.n).filter fun a=>dQ g a==a:=by
 show List.filter _ (all_ g.n)=_
 apply List.filter_congr
 intro a ha
 rw[all_,aD]at ha
 rw[all_,dt _ _ _ _ ha]
 rfl
theorem LV(g:Grp){a:Nat}(ha:a<g.n):((all_ g.n).map fun(a:Nat)=>least ((all_ g.n).map fun(x:Nat)=>times (rowsOf g) (times (rowsOf g) x a) (((all_ g.n).map fun(a:Nat)=>((all_ g.n).find? fun(b:Nat)=>times (rowsOf g) a b==0).getD 0).getD x 0))).getD a 0=dQ g a:=by
 rw[all_,dt _ _ _ _ ha];rfl
theorem mN(g:Grp){a:Nat}(ha:a<g.n):(factsOf g).classOf a=((factsOf g).reps.findIdx? fun x=>x==dQ g a).getD 0:=by
 show(List.map _ (all_ g.n)).getD a 0=_
 rw[all_,dt _ _ _ _ ha]
 show((factsOf g).reps.findIdx? fun x=>x==_).getD 0=_
 rw[←LV g ha]
 rfl
theorem Ic{l:List Nat}{x:Nat}(hx:x∈l): ∃i,l.findIdx? (fun y=>y==x)=some i∧∃h:i<l.length,l[i]=x:=by
 have h1:(l.findIdx? (fun y=>y==x)).isSome:=by
  rw[List.findIdx?_isSome,cS]
  exact⟨x,hx,by simp⟩
 obtain⟨i,hi⟩:=dM.1 h1
 have h2:=List.findIdx?_eq_some_iff_getElem.1 hi
 obtain⟨h3,h4,_⟩:=h2
 exact⟨i,hi,h3,by simpa using h4⟩
section
variable{g:Grp}(h:jO g)
include h in
theorem Ef{x a:Nat}(hx:x<g.n)(ha:a<g.n):cj g x a<g.n:=kx h (kx h hx ha) (jR h hx)
include h in
theorem l8{a:Nat}(ha:a<g.n): ∃x,x<g.n∧dQ g a=cj g x a:=by
 have h1:dQ g a∈(List.range g.n).map fun x=>cj g x a:=by
  apply sI
  intro h0
  have:=ba List.length h0
  simp at this
  have:=h.pos;omega
 obtain⟨x,hx,e⟩:=ay.1 h1
 exact⟨x,by simpa using hx,e.symm⟩
theorem l9(G:Gp g.n)(x y a:Fin g.n):G.mul (G.mul x (G.mul (G.mul y a) (G.inv y))) (G.inv x)=G.mul (G.mul (G.mul x y) a) (G.inv (G.mul x y)):=by
 rw[G.inv_mul_rev];simp only[G.assoc]
include h in
theorem lp{x a:Nat}(hx:x<g.n)(ha:a<g.n):dQ g (cj g x a)=dQ g a:=by
 apply A3
 intro y
 simp only[ay,aD]
 constructor
 ·rintro⟨z,hz,rfl⟩
  refine⟨times (rowsOf g) z x,kx h hz hx,?_⟩
  have:=ba Fin.val (l9 (gp h) ⟨z,hz⟩ ⟨x,hx⟩ ⟨a,ha⟩)
  exact this.symm
 ·rintro⟨z,hz,rfl⟩
  refine⟨times (rowsOf g) z ((factsOf g).inverse x),kx h hz (jR h hx),?_⟩
  have h1:=ba Fin.val (l9 (gp h) ((gp h).mul ⟨z,hz⟩ ((gp h).inv ⟨x,hx⟩)) ⟨x,hx⟩ ⟨a,ha⟩)
  rw[(gp h).assoc ⟨z,hz⟩ ((gp h).inv ⟨x,hx⟩) ⟨x,hx⟩,(gp h).inv_mul,(gp h).mul_one]at h1
  exact h1
include h in
theorem Ie{a:Nat}(ha:a<g.n):dQ g a<g.n:=by
 obtain⟨x,hx,e⟩:=l8 h ha
 rw[e];exact Ef h hx ha
include h in
theorem Eg{a:Nat}(ha:a<g.n):dQ g (dQ g a)=dQ g a:=by
 obtain⟨x,hx,e⟩:=l8 h ha
 conv=>lhs;rw[e,lp h hx ha]
include h in
theorem oH{x:Nat}:x∈(factsOf g).reps↔x<g.n∧dQ g x=x:=by
 rw[rm,bg];simp
include h in
theorem LW{a:Nat}(ha:a<g.n):dQ g a∈(factsOf g).reps:=(oH h).2 ⟨Ie h ha,Eg h ha⟩
theorem vt(g:Grp):(factsOf g).reps.Nodup:=by
 rw[rm];exact cE _ da
include h in
theorem eu{a:Nat}(ha:a<g.n): ∃hi:(factsOf g).classOf a<(factsOf g).many,(factsOf g).reps[(factsOf g).classOf a]'hi=dQ g a:=by
 obtain⟨i,hi,eI,e⟩:=Ic (LW h ha)
 have h1:(factsOf g).classOf a=i:=by rw[mN g ha,hi,de]
 subst h1
 exact⟨eI,e⟩
include h in
theorem jk{i:Nat}(hi:i<(factsOf g).many):(factsOf g).reps[i]'hi<g.n:=((oH h).1 (cn hi)).1
include h in
theorem oI{i:Nat}(hi:i<(factsOf g).many):(factsOf g).classOf ((factsOf g).reps[i]'hi)=i:=by
 obtain⟨hj,e⟩:=eu h (jk h hi)
 rw[((oH h).1 (cn hi)).2]at e
 exact(mG (vt g)).1 e
def classes:Cl (gp h) (factsOf g).many where
 cl a:=⟨(factsOf g).classOf a.val,(eu h a.isLt).1⟩
 rep i:=⟨(factsOf g).reps[i.val]'i.isLt,jk h i.isLt⟩
 fS i:=du (oI h i.isLt)
 FT a x:=by
  apply du
  show(factsOf g).classOf (cj g x.val a.val)=(factsOf g).classOf a.val
  rw[mN g (Ef h x.isLt a.isLt),mN g a.isLt,lp h x.isLt a.isLt]
 same a b e:=by
  have e1:=ba Fin.val e
  change(factsOf g).classOf a.val=(factsOf g).classOf b.val at e1
  obtain⟨h1,e2⟩:=eu h a.isLt
  obtain⟨h3,e4⟩:=eu h b.isLt
  have e5:dQ g a.val=dQ g b.val:=by
   rw[←e2,←e4];congr 1
  obtain⟨x,hx,e6⟩:=l8 h a.isLt
  obtain⟨y,hy,e7⟩:=l8 h b.isLt
  have e8:(gp h).mul ((gp h).mul ⟨x,hx⟩ a) ((gp h).inv ⟨x,hx⟩)=(gp h).mul ((gp h).mul ⟨y,hy⟩ b) ((gp h).inv ⟨y,hy⟩):=by
   apply du
   show cj g x a.val=cj g y b.val
   rw[←e6,←e7,e5]
  generalize (⟨x,hx⟩:Fin g.n)=X at e8
  generalize (⟨y,hy⟩:Fin g.n)=Y at e8
  refine⟨(gp h).mul ((gp h).inv Y) X,?_⟩
  rw[←l9 (gp h) ((gp h).inv Y) X a,e8,l9 (gp h) ((gp h).inv Y) Y b,(gp h).inv_mul,(gp h).one_mul,(gp h).inv_one,(gp h).mul_one]
end
end Sp
end
section
namespace Ch
theorem zo(P:Nat→Prop)(h: ∃n,P n): ∃n,P n∧∀m,m<n→¬P m:=by
 obtain⟨n,hn⟩:=h
 induction n using Nat.strongRecOn with
 |ind n ih=>
  by_cases h: ∃m,m<n∧P m
  ·obtain⟨m,hm,hP⟩:=h;exact ih m hm hP
  ·exact⟨n,hn,fun m hm hP=>h ⟨m,hm,hP⟩⟩
namespace Gp
variable{n:Nat}(G:Gp n)
theorem pow_add(a:Fin n)(i j:Nat):G.pow a (i+j)=G.mul (G.pow a i) (G.pow a j):=by
 induction j with
 |zero=>exact(G.mul_one _).symm
 |succ j ih=>rw[Nat.add_succ,Gp.pow,ih,Gp.pow,G.assoc]
theorem lq(a:Fin n)(i k:Nat)(h:G.pow a i=G.one):G.pow a (i*k)=G.one:=by
 induction k with
 |zero=>rfl
 |succ k ih=>rw[pd,pow_add,ih,h,G.one_mul]
theorem FW(a:Fin n):G.pow a n=G.one:=by
 classical
 have hex: ∃o,1≤o∧G.pow a o=G.one:=by
  have⟨i,j,oh,e⟩: ∃i j,i<j∧G.pow a i=G.pow a j:=by
   apply ai
   intro kd
   have hn:((List.range (n+1)).map (fun i=>G.pow a i)).Nodup:=by
    apply cR da
    intro i _ j _ e
    rcases iK i j with h|h|h
    ·exact absurd ⟨i,j,h,e⟩ kd
    ·exact h
    ·exact absurd ⟨j,i,h,e.symm⟩ kd
   have:=a8 hn (m:=List.finRange n) (fun y _=>ck y)
   simp at this
   omega
  refine⟨j-i,by omega,?_⟩
  rw[show j=i+(j-i) by omega,pow_add]at e
  apply G.fB (a:=G.pow a i)
  rw[←e,G.mul_one]
 obtain⟨o,⟨Oe,ho⟩,Pz⟩:=zo _ hex
 have W8: ∀k,G.pow a k=G.pow a (k % o):=by
  intro k
  conv=>lhs;rw[←Nat.mod_add_div k o,pow_add,lq G a o _ ho,G.mul_one]
 have W9: ∀i j,i<o→j<o→G.pow a i=G.pow a j→i=j:=by
  have key: ∀i j,i<j→j<o→G.pow a i≠G.pow a j:=by
   intro i j oh hj e
   rw[show j=i+(j-i) by omega,pow_add]at e
   have:G.pow a (j-i)=G.one:=by
    apply G.fB (a:=G.pow a i)
    rw[←e,G.mul_one]
   exact Pz (j-i) (by omega) ⟨by omega,this⟩
  intro i j hi hj e
  rcases iK i j with h|h|h
  ·exact absurd e (key i j h hj)
  ·exact h
  ·exact absurd e.symm (key j i h hi)
 have hd:o∣cA (List.finRange n) (fun _:Fin n=>True):=by
  apply AU ck (bA n) (fun x y=>∃k,y=G.mul x (G.pow a k)) _ _ (aq _)
  ·intro y _;exact⟨0,(G.mul_one y).symm⟩
  ·intros;trivial
  ·rintro y z w _ ⟨i,rfl⟩ ⟨j,rfl⟩
   refine⟨i*(o-1)+j,?_⟩
   rw[G.assoc,←pow_add,show i+(i*(o-1)+j)=o*i+j by
    have:i*(o-1)+i=i*o:=by rw[←pd];congr 1;omega
    rw[pf o i];omega,pow_add,lq G a o _ ho,G.one_mul]
  ·intro y _
   rw[gu ck (bA n) (l:=(List.range o).map (fun k=>G.mul y (G.pow a k)))]
   ·simp
   ·apply cR da
    intro i hi j hj e
    exact W9 i j (by simpa using hi) (by simpa using hj) (G.fB e)
   ·intro x
    simp only[ay,aD]
    constructor
    ·rintro⟨k,_,rfl⟩;exact⟨k,rfl⟩
    ·rintro⟨k,rfl⟩
     exact⟨k % o,p0 _ (by omega),by rw[←W8]⟩
 have HN:cA (List.finRange n) (fun _:Fin n=>True)=n:=by
  rw[gu ck (bA n) (l:=List.finRange n) (bA n) (by simp)]
  simp
 rw[HN]at hd
 obtain⟨k,hk⟩:=hd
 have:=lq G a o k ho
 rw[←hk]at this
 exact this
end Gp
end Ch
namespace Sp
open Rd01 Ch
theorem iP(n:Nat):List.range n=(List.finRange n).map Fin.val:=by
 apply bO
 ·simp
 ·intro i h1 h2;simp
theorem j6(n:Nat)(q:Nat→Bool):((List.range n).filter q).length=((List.finRange n).filter (fun a=>q a.val)).length:=by
 rw[iP,List.filter_map,ae];rfl
theorem PB(g:Grp):(factsOf g).cls=(List.range g.n).map (factsOf g).classOf:=by
 have hl:(factsOf g).cls.length=g.n:=by
  show(List.map _ (all_ g.n)).length=_
  simp[all_]
 apply bO
 ·simp[hl]
 ·intro i h1 h2
  simp only[bY,cM]
  show _=(factsOf g).cls.getD i 0
  rw[cP _ _ _ h1]
theorem sizeOf_eq(g:Grp){i:Nat}(hi:i<(factsOf g).many):(factsOf g).sizeOf_ i=((List.range g.n).filter fun a=>(factsOf g).classOf a==i).length:=by
 have h1:(factsOf g).size=(List.range (factsOf g).many).map fun i=>((factsOf g).cls.filter fun x=>x==i).length:=rfl
 rw[Facts.sizeOf_,h1,dt _ _ _ _ hi,PB,List.filter_map,ae];rfl
theorem CF(g:Grp){i:Nat}(hi:i<(factsOf g).many):(factsOf g).opp.getD i 0=(factsOf g).classOf ((factsOf g).inverse ((factsOf g).reps[i]'hi)):=by
 have h1:(factsOf g).opp=(factsOf g).reps.map fun x=>(factsOf g).cls.getD ((factsOf g).inv.getD x 0) 0:=rfl
 rw[h1,cP _ _ _ (by rw[ae];exact hi)]
 simp only[bY];rfl
section
variable{g:Grp}(h:jO g)
theorem pH(i:Fin (factsOf g).many):(classes h).size i=(factsOf g).sizeOf_ i.val:=by
 rw[sizeOf_eq g i.isLt,j6,Cl.size]
 congr 2
 funext a
 rw[iw]
 simp only[aG,cV]
 exact⟨fun e=>ba Fin.val e,fun e=>du e⟩
theorem zp(i:Fin (factsOf g).many):((classes h).opp i).val=(factsOf g).opp.getD i.val 0:=by
 rw[CF g i.isLt];rfl
theorem mO(i j:Fin (factsOf g).many)(c:Fin g.n):(classes h).ways i j c=(factsOf g).ways i.val j.val c.val:=by
 show _=((List.range g.n).filter fun x=>(factsOf g).classOf x==i.val&&(factsOf g).classOf ((factsOf g).mul ((factsOf g).inverse x) c.val)==j.val).length
 rw[j6,Cl.ways]
 congr 2
 funext a
 rw[iw]
 simp only[aG,cV,aN]
 exact⟨fun e=>⟨ba Fin.val e.1,ba Fin.val e.2⟩,fun e=>⟨du e.1,du e.2⟩⟩
theorem CH(a:Fin g.n)(m:Nat):((gp h).pow a m).val=(factsOf g).pow a.val m:=by
 induction m with
 |zero=>rfl
 |succ m ih=>
  show times (rowsOf g) ((gp h).pow a m).val a.val=times (rowsOf g) ((factsOf g).pow a.val m) a.val
  rw[ih]
include h in
theorem CI{a:Nat}(ha:a<g.n)(m:Nat):(factsOf g).pow a m<g.n:=by
 rw[←CH h ⟨a,ha⟩ m];exact Fin.isLt _
include h in
theorem gU:1≤(factsOf g).exponent∧(factsOf g).exponent≤g.n∧(∀a,a<g.n→(factsOf g).pow a (factsOf g).exponent=0)∧
  ∀m,1≤m→m<(factsOf g).exponent→¬ ∀a,a<g.n→(factsOf g).pow a m=0:=by
 have he:(factsOf g).exponent=(((List.range g.n).map fun m=>m+1).find? fun m=>(List.range g.n).all fun a=>(factsOf g).pow a m==0).getD 0:=rfl
 have h1:(((List.range g.n).map fun m=>m+1).find? fun m=>(List.range g.n).all fun a=>(factsOf g).pow a m==0).isSome:=by
  rw[List.find?_isSome]
  refine⟨g.n,?_,?_⟩
  ·rw[ay]
   exact⟨g.n-1,by have:=h.pos;simp;omega,by have:=h.pos;omega⟩
  ·rw[aW]
   intro a ha
   rw[aD]at ha
   have:=ba Fin.val ((gp h).FW ⟨a,ha⟩)
   rw[CH]at this
   exact cV.2 this
 obtain⟨m,hm⟩:=dM.1 h1
 rw[he,hm,de]
 have h2:=List.find?_some hm
 have h3:=List.mem_of_find?_eq_some hm
 obtain⟨k,hk,rfl⟩:=ay.1 h3
 rw[aD]at hk
 refine⟨by omega,by omega,?_,?_⟩
 ·intro a ha
  rw[aW]at h2
  simpa using h2 a (by simpa using ha)
 ·intro m PD PF fq
  rw[List.find?_eq_some_iff_getElem]at hm
  obtain⟨_,i,hi,e1,eI⟩:=hm
  simp only[bY,cM]at e1
  have h4:=eI (m-1) (by omega)
  simp only[bY,cM,show m-1+1=m by omega,Bool.not_eq_true']at h4
  have h5:(List.range g.n).all (fun a=>(factsOf g).pow a m==0)=true:=by
   rw[aW]
   intro a ha
   rw[aD]at ha
   simpa using fq a ha
  rw[h4]at h5
  exact absurd h5 (by simp)
end
theorem CJ{p:Nat}(h:isPrime p=true):gR p:=by
 simp only[isPrime,aN,aG,aW,aD,eY,bne_iff_ne,ne_eq]at h
 refine⟨h.1,?_⟩
 intro d hd
 have h0:d≤p:=jZ (by omega) hd
 by_cases h1:d=p
 ·exact .inr h1
 ·left
  rcases h.2 d (by omega)with h2|h2
  ·have:d≠0:=by
    rintro rfl
    have:=Nat.eq_zero_of_zero_dvd hd
    omega
   omega
  ·exact absurd (Nat.mod_eq_zero_of_dvd hd) h2
theorem qk{p:Nat}(h:gR p):isPrime p=true:=by
 simp only[isPrime,aN,aG,aW,aD,eY,bne_iff_ne,ne_eq]
 refine⟨h.1,?_⟩
 intro d hd
 by_cases h2:d<2
 ·exact .inl h2
 ·right
  intro h3
  rcases h.2 d (dB h3)with h4|h4<;>omega
def mP:List Nat:=[53,53,61,53,61,61,71,73,73,61,67,61,53,71,61,97,103,73,191,61,127,67,139,73]
theorem CK(e:Nat)(h1:1≤e)(h2:e≤24): ∃p,p<10000∧48<p∧(p-1) % e=0∧isPrime p=true:=by
 have key: ∀i,i<24→(mP.getD i 0<10000∧48<mP.getD i 0∧(mP.getD i 0-1) % (i+1)=0∧isPrime (mP.getD i 0)=true):=by
  decide +kernel
 have:=key (e-1) (by omega)
 rw[show e-1+1=e by omega]at this
 exact⟨_,this⟩
theorem fF{g:Grp}(h:jO g)(g6:g.n≤24):gR (factsOf g).prime∧2*g.n<(factsOf g).prime∧((factsOf g).prime-1) % (factsOf g).exponent=0∧
  ∀q,gR q→2*g.n<q→(q-1) % (factsOf g).exponent=0→(factsOf g).prime≤q:=by
 obtain⟨e1,e2,e3,_⟩:=gU h
 have he:(factsOf g).prime=((List.range 10000).find? fun p=>decide (2*g.n<p)&&((p-1) % (factsOf g).exponent==0&&isPrime p)).getD 0:=rfl
 generalize (factsOf g).exponent=e at*
 obtain⟨q0,Ln,FY,CM,Td⟩:=CK e e1 (by omega)
 have h1:((List.range 10000).find? fun p=>decide (2*g.n<p)&&((p-1) % e==0&&isPrime p)).isSome:=by
  rw[List.find?_isSome]
  refine⟨q0,by simpa using Ln,?_⟩
  simp only[aN,aG,cV]
  exact⟨by omega,CM,Td⟩
 obtain⟨p,hp⟩:=dM.1 h1
 rw[he,hp,de]
 have h2:=List.find?_some hp
 simp only[aN,aG,cV]at h2
 refine⟨CJ h2.2.2,h2.1,h2.2.1,?_⟩
 intro q hq FY CM
 apply ai
 intro eI
 have hm:=List.mem_of_find?_eq_some hp
 rw[aD]at hm
 rw[List.find?_eq_some_iff_getElem]at hp
 obtain⟨_,i,hi,e4,hl⟩:=hp
 simp only[cM]at e4
 have h5:=hl q (by omega)
 simp only[cM,Bool.not_eq_true']at h5
 have h6:(decide (2*g.n<q)&&((q-1) % e==0&&isPrime q))=true:=by
  simp only[aN,aG,cV]
  exact⟨FY,CM,qk hq⟩
 rw[h5]at h6
 exact absurd h6 (by simp)
theorem pI{g:Grp}(h:jO g)(g6:g.n≤24)(a:Fin g.n):(gp h).pow a (factsOf g).prime=a:=by
 obtain⟨p1,p2,p3,_⟩:=fF h g6
 obtain⟨e1,e2,e3,_⟩:=gU h
 have h1:(gp h).pow a (factsOf g).exponent=(gp h).one:=du (by rw[CH];exact e3 _ a.isLt)
 obtain⟨k,hk⟩:=dB p3
 have h2:=(gp h).lq a _ k h1
 rw[←hk]at h2
 have:(factsOf g).prime=((factsOf g).prime-1)+1:=by have:=p1.1;omega
 rw[this,(gp h).pow_add,h2,(gp h).one_mul]
 exact(gp h).one_mul a
end Sp
end
section
namespace Sp
open Rd01 Ch
theorem iB(v:Worths)(c:Nat)(y:Option Nat)(hc:c<v.length)(c':Nat):worthAt (v.set c y) c'=if c'=c then y else worthAt v c':=by
 unfold worthAt
 rw[af,af,List.getElem?_set]
 by_cases h:c=c'
 ·subst h;simp[hc]
 ·rw[aI h,aI (fun e=>h e.symm)]
theorem A4(p:Nat)(v w:Worths)(l:List (Nat×Nat))(h: ∀x∈l,worthAt v x.1=worthAt w x.1):sumOf p v l=sumOf p w l:=by
 unfold sumOf
 generalize (some 0:Option Nat)=s
 induction l generalizing s with
 |nil=>rfl
 |cons a l ih=>
  rw[iu,iu,h a (by simp)]
  exact ih (fun x hx=>h x (by simp[hx])) _
theorem sJ(p:Nat)(v:Worths)(l:List (Nat×Nat)):l.foldl (fun(s:Option Nat)(x:Nat×Nat)=>match s,worthAt v x.1 with
 |some s,some w=>some ((s+x.2*w) % p)
 |_,_=>none) none=none:=by
 induction l with
 |nil=>rfl
 |cons a l ih=>rw[iu];exact ih
theorem CN(p:Nat)(v:Worths)(l:List (Nat×Nat))(h: ∃x∈l,worthAt v x.1=none):sumOf p v l=none:=by
 unfold sumOf
 generalize (some 0:Option Nat)=s
 induction l generalizing s with
 |nil=>simp at h
 |cons a l ih=>
  rw[iu]
  obtain⟨x,hx,e⟩:=h
  rcases aH.1 hx with rfl|hx
  ·rw[e]
   cases s<;>exact sJ p v l
  ·exact ih ⟨x,hx,e⟩ _
theorem vw(p:Nat)(v:Worths)(W:Nat→Nat)(l:List (Nat×Nat))(h: ∀x∈l,worthAt v x.1=some (W x.1))(hp:0<p):
  sumOf p v l=some ((l.map fun x=>x.2*W x.1).sum % p):=by
 unfold sumOf
 have key: ∀s,s<p→l.foldl (fun(s:Option Nat)(x:Nat×Nat)=>match s,worthAt v x.1 with
  |some s,some w=>some ((s+x.2*w) % p)
  |_,_=>none) (some s)=some ((s+(l.map fun x=>x.2*W x.1).sum) % p):=by
  induction l with
  |nil=>intro s hs;simp[aM hs]
  |cons a l ih=>
   intro s hs
   rw[iu,h a (by simp)]
   show List.foldl _ (some ((s+a.2*W a.1) % p)) l=_
   rw[ih (fun x hx=>h x (by simp[hx])) _ (p0 _ hp),a6,mJ,Nat.mod_add_mod,Nat.add_assoc]
 have:=key 0 hp
 rw[Nat.zero_add]at this
 exact this
theorem rn(p:Nat)(m:Products)(v w:Worths)(i j:Nat)(hi:worthAt v i=worthAt w i)(hj:worthAt v j=worthAt w j)
  (h: ∀x∈productOf m i j,worthAt v x.1=worthAt w x.1):agrees p m v i j=agrees p m w i j:=by
 unfold agrees
 rw[hi,hj,A4 p v w _ h]
theorem tU(p:Nat)(m:Products)(v:Worths)(i j:Nat)(h:worthAt v i=none∨worthAt v j=none∨∃x∈productOf m i j,worthAt v x.1=none):
  agrees p m v i j=true:=by
 unfold agrees
 rcases h with h|h|h
 ·rw[h]
 ·rw[h];cases worthAt v i<;>rfl
 ·rw[CN p v _ h];cases worthAt v i<;>cases worthAt v j<;>rfl
section
variable(f:Facts)(p:Nat)(m:Products)
structure Good(done:List Nat)(v:Worths):Prop where
 len:v.length=f.many
 known: ∀c,c<f.many→c∈done→∃x,x<p∧worthAt v c=some x
 not: ∀c,c<f.many→c∉done→worthAt v c=none
 first:worthAt v 0=some 1
 agree: ∀i j,i≤j→j<f.many→agrees p m v i j=true
theorem mQ{v w:Worths}(h1:v.length=w.length)(h: ∀c,c<v.length→worthAt v c=worthAt w c):v=w:=by
 apply bO h1
 intro i hi hj
 have:=h i hi
 unfold worthAt at this
 rw[cP _ _ _ hi,cP _ _ _ hj]at this
 exact this
theorem pJ{c:Nat}{v w:Worths}:w∈tried f p m c v↔(∃x,x<p∧w=v.set c (some x))∧agrees p m w c c=true∧
  ∀i,i<f.many→∀j,j<f.many→i≤j→(i=c∨j=c∨∃x∈productOf m i j,x.1=c)→agrees p m w i j=true:=by
 unfold tried
 simp only[bg,ay,aD,aN,aW,cS,cV]
 constructor
 ·rintro⟨⟨x,hx,rfl⟩,h1,h2⟩
  refine⟨⟨x,hx,rfl⟩,h1,?_⟩
  intro i hi j hj oh hc
  have:=h2 i hi j hj
  rw[aO ⟨oh,hc⟩]at this
  exact this
 ·rintro⟨⟨x,hx,rfl⟩,h1,h2⟩
  refine⟨⟨x,hx,rfl⟩,h1,?_⟩
  intro i hi j hj
  split
  ·rename_i hc
   exact h2 i hi j hj hc.1 hc.2
  ·rfl
theorem Ig{done:List Nat}{c:Nat}(hc:c<f.many)(tV:c∉done)(h0:0∈done)(w:Worths):
  Good f p m (done++[c]) w↔ ∃v,Good f p m done v∧w∈tried f p m c v:=by
 constructor
 ·intro H
  obtain⟨x,hx,ex⟩:=H.known c hc (by simp)
  have lO:c<w.length:=by rw[H.len];exact hc
  have oJ: ∀c',worthAt (w.set c none) c'=if c'=c then none else worthAt w c':=iB w c none lO
  refine⟨w.set c none,⟨?_,?_,?_,?_,?_⟩,?_⟩
  ·rw[uZ,H.len]
  ·intro c' qL hd
   rw[oJ,aI (show¬c'=c from fun e=>tV (e▸hd))]
   exact H.known c' qL (by simp[hd])
  ·intro c' qL hd
   rw[oJ]
   split
   ·rfl
   ·rename_i df
    exact H.not c' qL (by simp[hd,df])
  ·rw[oJ,aI (show¬0=c from fun e=>tV (e▸h0))];exact H.first
  ·intro i j oh hj
   by_cases tW:i=c∨j=c∨∃x∈productOf m i j,x.1=c
   ·apply tU
    rcases tW with rfl|rfl|⟨x,hx,e⟩
    ·left;rw[oJ,aO rfl]
    ·right;left;rw[oJ,aO rfl]
    ·right;right;exact⟨x,hx,by rw[oJ,aO e]⟩
   ·rw[rn p m _ w i j]
    ·exact H.agree i j oh hj
    ·rw[oJ,aI (fun e=>tW (.inl e))]
    ·rw[oJ,aI (fun e=>tW (.inr (.inl e)))]
    ·intro x hx;rw[oJ,aI (fun e=>tW (.inr (.inr ⟨x,hx,e⟩)))]
  ·rw[pJ]
   refine⟨⟨x,hx,?_⟩,H.agree c c (aq c) hc,fun i hi j hj oh _=>H.agree i j oh hj⟩
   apply mQ
   ·simp
   ·intro c' _
    rw[iB _ _ _ (by simpa using lO),oJ]
    split
    ·rename_i e;rw[e,ex]
    ·rfl
 ·rintro⟨v,H,hw⟩
  rw[pJ]at hw
  obtain⟨⟨x,hx,rfl⟩,h1,h2⟩:=hw
  have lO:c<v.length:=by rw[H.len];exact hc
  have oJ: ∀c',worthAt (v.set c (some x)) c'=if c'=c then some x else worthAt v c':=iB v c _ lO
  refine⟨?_,?_,?_,?_,?_⟩
  ·rw[uZ,H.len]
  ·intro c' qL hd
   rw[oJ]
   split
   ·exact⟨x,hx,rfl⟩
   ·rename_i df
    exact H.known c' qL (by simpa[df]using hd)
  ·intro c' qL hd
   have df:c'≠c:=fun e=>hd (by simp[e])
   rw[oJ,aI df]
   exact H.not c' qL (fun h=>hd (by simp[h]))
  ·rw[oJ,aI (show¬0=c from fun e=>tV (e▸h0))];exact H.first
  ·intro i j oh hj
   by_cases tW:i=c∨j=c∨∃x∈productOf m i j,x.1=c
   ·exact h2 i (by omega) j hj oh tW
   ·rw[rn p m _ v i j]
    ·exact H.agree i j oh hj
    ·rw[oJ,aI (fun e=>tW (.inl e))]
    ·rw[oJ,aI (fun e=>tW (.inr (.inl e)))]
    ·intro x hx;rw[oJ,aI (fun e=>tW (.inr (.inr ⟨x,hx,e⟩)))]
theorem CO{done:List Nat}{c:Nat}(hc:c<f.many)(tV:c∉done){l:List Worths}(hl:l.Nodup)(hg: ∀v∈l,Good f p m done v):
  (l.flatMap (tried f p m c)).Nodup:=by
 apply lK hl
 ·intro v hv
  have lO:c<v.length:=by rw[(hg v hv).len];exact hc
  unfold tried
  apply cE
  apply cR da
  intro x _ y _ e
  have:=ba (fun w=>worthAt w c) e
  simp only[iB v c _ lO,fD]at this
  exact a7 this
 ·intro v hv v' vz w hw SX
  obtain⟨⟨x,_,e1⟩,_⟩:=(pJ f p m).1 hw
  obtain⟨⟨y,_,e2⟩,_⟩:=(pJ f p m).1 SX
  have lO:c<v.length:=by rw[(hg v hv).len];exact hc
  have Ih:c<v'.length:=by rw[(hg v' vz).len];exact hc
  apply mQ (by rw[(hg v hv).len,(hg v' vz).len])
  intro c' qL
  by_cases h:c'=c
  ·subst h
   rw[(hg v hv).not _ hc tV,(hg v' vz).not _ hc tV]
  ·have:=ba (fun w=>worthAt w c') (e1.symm.trans e2)
   simp only[iB v c _ lO,iB v' c _ Ih,aI h]at this
   exact this
theorem vA{done:List Nat}{c:Nat}(h:nextClass f m done=some c):c<f.many∧c∉done:=by
 unfold nextClass at h
 have key:c∈(List.range f.many).filter (fun c=>!done.contains c):=by
  simp only[]at h
  split at h
  ·rename_i c' qL
   cases h
   exact List.mem_of_find?_eq_some qL
  ·exact List.mem_of_mem_head? h
 simpa using key
theorem vB{done:List Nat}(h:nextClass f m done=none): ∀c,c<f.many→c∈done:=by
 unfold nextClass at h
 simp only[]at h
 split at h
 ·cases h
 ·intro c hc
  apply ai
  intro hd
  have key:c∈(List.range f.many).filter (fun c=>!done.contains c):=by simp[hc,hd]
  rw[List.head?_eq_none_iff]at h
  rw[h]at key
  simp at key
theorem A5{done:List Nat}(fq: ∀c,c<f.many→c∈done)(v:Worths):Good f p m done v↔Good f p m (List.range f.many) v:=
 ⟨fun H=>⟨H.len,fun c hc _=>H.known c hc (fq c hc),fun c hc h=>absurd (by simpa using hc) h,H.first,H.agree⟩,
  fun H=>⟨H.len,fun c hc _=>H.known c hc (by simpa using hc),fun c hc h=>absurd (fq c hc) h,H.first,H.agree⟩⟩
theorem vC: ∀(k:Nat)(done:List Nat)(l:List Worths),0∈done→l.Nodup→(∀v,v∈l↔Good f p m done v)→
  ((List.range f.many).filter (fun c=>!done.contains c)).length≤k→
  (allWorths f p m k done l).Nodup∧∀v,v∈allWorths f p m k done l↔Good f p m (List.range f.many) v:=by
 intro k
 induction k with
 |zero=>
  intro done l h0 hn hl hk
  refine⟨hn,fun v=>?_⟩
  show v∈l↔_
  rw[hl]
  apply A5
  intro c hc
  apply ai
  intro hd
  have key:c∈(List.range f.many).filter (fun c=>!done.contains c):=by simp[hc,hd]
  have:=dA key
  omega
 |succ k ih=>
  intro done l h0 hn hl hk
  unfold allWorths
  split
  ·rename_i yc
   exact⟨hn,fun v=>by rw[hl];exact A5 f p m (vB f m yc) v⟩
  ·rename_i c Ii
   obtain⟨hc,tV⟩:=vA f m Ii
   apply ih
   ·simp[h0]
   ·exact CO f p m hc tV hn (fun v hv=>(hl v).1 hv)
   ·intro w
    rw[dZ,Ig f p m hc tV h0]
    constructor
    ·rintro⟨v,hv,hw⟩;exact⟨v,(hl v).1 hv,hw⟩
    ·rintro⟨v,hv,hw⟩;exact⟨v,(hl v).2 hv,hw⟩
   ·have h1:(c::(List.range f.many).filter (fun c'=>!(done++[c]).contains c')).Nodup:=by
     rw[bV]
     refine⟨by simp,cE _ da⟩
    have h2:=a8 h1 (m:=(List.range f.many).filter (fun c=>!done.contains c)) (by
     intro x hx
     rcases aH.1 hx with rfl|hx
     ·simp[hc,tV]
     ·simp at hx⊢
      exact⟨hx.1,hx.2.1⟩)
    rw[aC]at h2
    omega
end
end Sp
end
section
namespace Sp
open Rd01 Ch
open Lean.Grind (Semiring Ring CommRing CommSemiring)
theorem dn{p:Nat} [NeZero p](a b:Nat):(nc a:Fin p)=nc b↔a % p=b % p:=by
 constructor
 ·intro e
  have:=ba Fin.val e
  rwa [eH,eH]at this
 ·intro e
  apply du
  rw[eH,eH,e]
theorem rp{p:Nat} [NeZero p](a:Nat):(nc (a % p):Fin p)=nc a:=by
 rw[dn];simp
theorem A6{R:Type} [Semiring R]{α:Type}(l:List α)(k:α→Nat):(nc (l.map k).sum:R)=lsum l (fun a=>nc (k a)):=by
 induction l with
 |nil=>rfl
 |cons a l ih=>rw[a6,mJ,u4,ih,cz]
theorem fG{R:Type} [Semiring R](r:Nat)(k:Nat→Nat):(nc ((List.range r).map k).sum:R)=fs (fun i:Fin r=>nc (k i.val)):=by
 rw[A6,iP,iO];rfl
theorem qb(l:List (Nat×Nat))(W:Nat→Nat):((l.filter fun x=>x.2 !=0).map fun x=>x.2*W x.1).sum=(l.map fun x=>x.2*W x.1).sum:=by
 induction l with
 |nil=>rfl
 |cons a l ih=>
  rw[gF]
  by_cases h:a.2=0
  ·simp[h,ih]
  ·simp[h,ih]
section
variable{g:Grp}(h:jO g)
include h in
theorem eU{a:Nat}(ha:a<g.n):0<(factsOf g).many:=by
 have:=(eu h ha).1;omega
include h in
theorem vD:dQ g 0=0:=by
 obtain⟨x,hx,e⟩:=l8 h (a:=0) h.pos
 rw[e,cj,h.yb x hx]
 exact(fE h hx).2
include h in
theorem rq:(factsOf g).classOf 0=0:=by
 rw[mN g h.pos,vD h]
 have h1:(factsOf g).reps=0::((factsOf g).reps).tail:=by
  rw[rm]
  obtain⟨k,hk⟩: ∃k,g.n=k+1:=⟨g.n-1,by have:=h.pos;omega⟩
  rw[hk,ej,gF]
  simp[vD h]
 rw[h1]
 rfl
include h in
theorem FZ(hm:0<(factsOf g).many):(factsOf g).reps[0]'hm=0:=by
 obtain⟨hi,e⟩:=eu h (a:=0) h.pos
 rw[vD h]at e
 have key: ∀i(hi:i<(factsOf g).many),i=0→(factsOf g).reps[i]'hi=(factsOf g).reps[0]'hm:=by
  rintro i hi rfl;rfl
 exact(key _ hi (rq h)).symm.trans e
theorem gP:((classes h).cl (gp h).one).val=0:=rq h
theorem lr(f:Facts){i j:Nat}(hi:i<f.many)(hj:j<f.many):
  productOf f.products i j=((List.range f.many).map fun c=>(c,f.ways i j (f.reps.getD c 0))).filter fun x=>x.2 !=0:=by
 rw[productOf,Facts.products,dt _ _ _ _ hi,dt _ _ _ _ hj]
theorem vE(f:Facts){p:Nat}(hp:0<p)(v:Worths)(W:Nat→Nat)(hW: ∀c,c<f.many→worthAt v c=some (W c)){i j:Nat}(hi:i<f.many)(hj:j<f.many):
  agrees p f.products v i j=true↔(W i*W j) % p=(((List.range f.many).map fun c=>f.ways i j (f.reps.getD c 0)*W c).sum) % p:=by
 have h1:=vw p v W (productOf f.products i j) (by
  intro x hx
  rw[lr f hi hj]at hx
  simp only[bg,ay,aD]at hx
  obtain⟨⟨c,hc,rfl⟩,_⟩:=hx
  exact hW c hc) hp
 unfold agrees
 rw[hW i hi,hW j hj,h1]
 simp only[cV]
 rw[lr f hi hj,qb,aU]
 rfl
def wv(v:Worths)(i:Nat):Nat:=(worthAt v i).getD 0
theorem F0(p:Nat) [NeZero p]{n r:Nat}{G:Gp n}(C:Cl G r)(i j:Fin r)(c:Fin n):(nc (C.ways i j c):Fin p)=nc (C.ways j i c):=by
 rw[←C.pF,←C.pF,C.dh i]
theorem zq{p:Nat} [NeZero p](uH:2≤p)(W:Nat→Nat):(classes h).Cv (fun i=>(nc (W i.val):Fin p))↔(W 0 % p=1∧∀i j,i≤j→j<(factsOf g).many→
  (W i*W j) % p=(((List.range (factsOf g).many).map fun c=>(factsOf g).ways i j ((factsOf g).reps.getD c 0)*W c).sum) % p):=by
 have key: ∀i j:Fin (factsOf g).many,(nc (W i.val)*nc (W j.val)=fs (fun c:Fin (factsOf g).many=>nc ((classes h).ways i j ((classes h).rep c))*(nc (W c.val):Fin p)))↔
   (W i.val*W j.val) % p=(((List.range (factsOf g).many).map fun c=>(factsOf g).ways i.val j.val ((factsOf g).reps.getD c 0)*W c).sum) % p:=by
  intro i j
  rw[←cf,←dn (p:=p),fG]
  have e:fs (fun c:Fin (factsOf g).many=>nc ((classes h).ways i j ((classes h).rep c))*(nc (W c.val):Fin p))=
    fs (fun c:Fin (factsOf g).many=>(nc ((factsOf g).ways i.val j.val ((factsOf g).reps.getD c.val 0)*W c.val):Fin p)):=by
   apply bp
   intro c
   rw[cf,mO,cP _ _ _ c.isLt];rfl
  rw[e]
 have Eh:((nc (W ((classes h).cl (gp h).one).val):Fin p)=1)↔W 0 % p=1:=by
  rw[gP,←gN,dn,aM (show 1<p by omega)]
 constructor
 ·intro H
  refine⟨Eh.1 H.one,?_⟩
  intro i j oh hj
  exact(key ⟨i,by omega⟩ ⟨j,hj⟩).1 (H.mul _ _)
 ·rintro⟨h1,h2⟩
  refine⟨Eh.2 h1,?_⟩
  intro i j
  by_cases oh:i.val≤j.val
  ·exact(key i j).2 (h2 _ _ oh j.isLt)
  ·have:=(key j i).2 (h2 j.val i.val (by omega) i.isLt)
   show nc (W i.val)*nc (W j.val)=_
   rw[gG,this]
   apply bp
   intro c
   rw[F0]
theorem Ij{p:Nat} [NeZero p](uH:2≤p){v:Worths}(H:Good (factsOf g) p (factsOf g).products (List.range (factsOf g).many) v):
  (classes h).Cv (fun i=>(nc (wv v i.val):Fin p)):=by
 have hm:=eU h h.pos
 have hW: ∀c,c<(factsOf g).many→worthAt v c=some (wv v c):=by
  intro c hc
  obtain⟨x,_,e⟩:=H.known c hc (by simpa using hc)
  rw[wv,e];rfl
 rw[zq h uH]
 refine⟨?_,?_⟩
 ·rw[wv,H.first,de,aM (by omega)]
 ·intro i j oh hj
  exact(vE (factsOf g) (by omega) v (wv v) hW (by omega) hj).1 (H.agree i j oh hj)
theorem A7{p:Nat} [NeZero p](uH:2≤p){w:Fin (factsOf g).many→Fin p}(H:(classes h).Cv w):
  ∃v,Good (factsOf g) p (factsOf g).products (List.range (factsOf g).many) v∧∀i:Fin (factsOf g).many,wv v i.val=(w i).val:=by
 have hm:=eU h h.pos
 let v:Worths:=(List.finRange (factsOf g).many).map (fun i=>some (w i).val)
 have hv: ∀i:Fin (factsOf g).many,worthAt v i.val=some (w i).val:=by
  intro i
  show((List.finRange (factsOf g).many).map (fun i=>some (w i).val)).getD i.val none=_
  rw[cP _ _ _ (by simp)];simp
 have Te: ∀i:Fin (factsOf g).many,wv v i.val=(w i).val:=by
  intro i;rw[wv,hv];rfl
 have hw:w=fun i=>nc (wv v i.val):=by funext i;rw[Te,gO]
 rw[hw,zq h uH]at H
 have h0:wv v 0=1:=by
  have h1:=H.1
  have h2:=Te ⟨0,hm⟩
  have h3:=(w ⟨0,hm⟩).isLt
  simp only[]at h2
  rw[aM (by omega)]at h1
  exact h1
 refine⟨v,⟨?_,?_,?_,?_,?_⟩,Te⟩
 ·simp[v]
 ·intro c hc _
  exact⟨_,(w ⟨c,hc⟩).isLt,hv ⟨c,hc⟩⟩
 ·intro c hc hn
  exact absurd (by simpa using hc) hn
 ·have:=hv ⟨0,hm⟩
  rw[this,←Te ⟨0,hm⟩,h0]
 ·intro i j oh hj
  rw[vE (factsOf g) (by omega) v (wv v) _ (by omega) hj]
  ·exact H.2 i j oh hj
  ·intro c hc
   rw[hv ⟨c,hc⟩,Te ⟨c,hc⟩]
def none_(f:Facts):Worths:=(List.range f.many).map fun c=>if c=0 then some 1 else none
theorem sL(p:Nat) [NeZero p]{n r:Nat}{G:Gp n}(C:Cl G r)(c:Fin n):C.ways (C.cl G.one) (C.cl G.one) c=if c=G.one then 1 else 0:=by
 unfold Cl.ways
 have key: ∀x,(decide (C.cl x=C.cl G.one)&&decide (C.cl (G.mul (G.inv x) c)=C.cl G.one))=(decide (x=G.one)&&decide (c=G.one)):=by
  intro x
  rw[iw]
  simp only[aN,aG]
  constructor
  ·rintro⟨h1,h2⟩
   have e1:=C.vn h1
   have e2:=C.vn h2
   subst e1
   rw[G.inv_one,G.one_mul]at e2
   exact⟨rfl,e2⟩
  ·rintro⟨rfl,rfl⟩
   rw[G.inv_one,G.one_mul];exact⟨rfl,rfl⟩
 rw[show(fun x=>decide (C.cl x=C.cl G.one)&&decide (C.cl (G.mul (G.inv x) c)=C.cl G.one))=fun x=>(decide (x=G.one)&&decide (c=G.one))from funext key]
 by_cases hc:c=G.one
 ·rw[aO hc]
  have hp:((List.finRange n).filter (fun x=>decide (x=G.one)&&decide (c=G.one))).Perm [G.one]:=by
   apply cX (cE _ (bA n)) (by simp)
   intro a
   simp[hc]
  exact hp.length_eq
 ·rw[aI hc]
  simp[hc]
include h in
theorem ql{p:Nat} [NeZero p](uH:2≤p)(v:Worths):v∈[none_ (factsOf g)]↔Good (factsOf g) p (factsOf g).products [0] v:=by
 have hm:=eU h h.pos
 have xH: ∀c,c<(factsOf g).many→worthAt (none_ (factsOf g)) c=if c=0 then some 1 else none:=by
  intro c hc
  rw[worthAt,none_,dt _ _ _ _ hc]
 rw[aQ]
 constructor
 ·rintro rfl
  refine⟨by simp[none_],?_,?_,?_,?_⟩
  ·intro c hc h0
   rw[aQ]at h0
   exact⟨1,by omega,by rw[xH c hc,aO h0]⟩
  ·intro c hc h0
   rw[aQ]at h0
   rw[xH c hc,aI h0]
  ·rw[xH 0 hm,aO rfl]
  ·intro i j oh hj
   by_cases RY:j=0
   ·have VY:i=0:=by omega
    subst VY RY
    unfold agrees
    rw[xH 0 hm,aO rfl]
    have h1:=vw p (none_ (factsOf g)) (fun _=>1) (productOf (factsOf g).products 0 0) (by
     intro x hx
     rw[lr _ hm hm]at hx
     simp only[bg,ay,aD,bne_iff_ne]at hx
     obtain⟨⟨c,hc,rfl⟩,df⟩:=hx
     have hw:=mO h ⟨0,hm⟩ ⟨0,hm⟩ ((classes h).rep ⟨c,hc⟩)
     have e0:(⟨0,hm⟩:Fin (factsOf g).many)=(classes h).cl (gp h).one:=du (gP h).symm
     rw[e0,sL p]at hw
     have vF:((classes h).rep ⟨c,hc⟩).val=(factsOf g).reps.getD c 0:=by rw[cP _ _ _ hc];rfl
     have FR:c=0:=by
      by_cases hh:(classes h).rep ⟨c,hc⟩=(gp h).one
      ·have:=ba Fin.val (ba (classes h).cl hh)
       rw[(classes h).fS,gP]at this
       exact this
      ·rw[aI hh,vF]at hw
       have e1:((classes h).cl (gp h).one).val=0:=gP h
       simp only[e1]at hw
       exact absurd hw.symm df
     simp only[FR]
     rw[xH 0 hm,aO rfl]) (by omega)
    rw[h1]
    simp only[cV]
    rw[lr _ hm hm]
    have h2:=qb ((List.range (factsOf g).many).map fun c=>(c,(factsOf g).ways 0 0 ((factsOf g).reps.getD c 0))) (fun _=>1)
    rw[h2,aU,←dn (p:=p)]
    show _=nc ((List.range (factsOf g).many).map (fun c=>(factsOf g).ways 0 0 ((factsOf g).reps.getD c 0)*1)).sum
    rw[fG,ft _ ⟨0,hm⟩]
    ·have hw:=mO h ⟨0,hm⟩ ⟨0,hm⟩ (gp h).one
     have e0:(⟨0,hm⟩:Fin (factsOf g).many)=(classes h).cl (gp h).one:=du (gP h).symm
     rw[e0,sL p,aO rfl]at hw
     have e1:((classes h).cl (gp h).one).val=0:=gP h
     simp only[e1]at hw
     show _=nc ((factsOf g).ways 0 0 ((factsOf g).reps.getD 0 0)*1)
     rw[cP _ _ _ hm,FZ h hm]
     have e2:((gp h).one).val=0:=rfl
     rw[e2]at hw
     rw[←hw]
    ·intro b hb
     have hw:=mO h ⟨0,hm⟩ ⟨0,hm⟩ ((classes h).rep b)
     have e0:(⟨0,hm⟩:Fin (factsOf g).many)=(classes h).cl (gp h).one:=du (gP h).symm
     have df:(classes h).rep b≠(gp h).one:=by
      intro hh
      apply hb
      have:=ba (classes h).cl hh
      rw[(classes h).fS,←e0]at this
      exact this
     rw[e0,sL p,aI df]at hw
     have e1:((classes h).cl (gp h).one).val=0:=gP h
     simp only[e1]at hw
     have vF:((classes h).rep b).val=(factsOf g).reps.getD b.val 0:=by rw[cP _ _ _ b.isLt];rfl
     rw[vF]at hw
     rw[←hw];rfl
   ·apply tU
    right;left
    rw[xH j hj,aI RY]
 ·intro H
  apply mQ
  ·rw[H.len];simp[none_]
  ·intro c hc
   rw[H.len]at hc
   rw[xH c hc]
   split
   ·rename_i e;rw[e];exact H.first
   ·rename_i e;exact H.not c hc (by simpa using e)
include h in
theorem vG{p:Nat} [NeZero p](uH:2≤p):
  (allWorths (factsOf g) p (factsOf g).products (factsOf g).many [0] [none_ (factsOf g)]).Nodup∧
  ∀v,v∈allWorths (factsOf g) p (factsOf g).products (factsOf g).many [0] [none_ (factsOf g)]↔Good (factsOf g) p (factsOf g).products (List.range (factsOf g).many) v:=by
 apply vC _ _ _ _ _ _ (by simp) (by simp) (ql h uH)
 have:=eB (fun c=>!([0]:List Nat).contains c) (List.range (factsOf g).many)
 rw[bh]at this
 exact this
end
end Sp
end
section
namespace Sp
open Rd01 Ch
open Lean.Grind (Semiring Ring CommRing CommSemiring)
theorem vH(a:List Nat):rowLess a a=false:=by
 induction a with
 |nil=>rfl
 |cons x a ih=>simp[rowLess,ih]
theorem xI: ∀(a b c:List Nat),rowLess a b=true→rowLess b c=true→rowLess a c=true:=by
 intro a
 induction a with
 |nil=>intro b c h;simp[rowLess]at h
 |cons x a ih=>
  intro b c h1 h2
  cases b with
  |nil=>simp[rowLess]at h1
  |cons y b=>
   cases c with
   |nil=>simp[rowLess]at h2
   |cons z c=>
    simp only[rowLess,eY,aG,aN,cV]at*
    rcases h1 with h1|⟨rfl,h1⟩
    ·rcases h2 with h2|⟨rfl,h2⟩
     ·left;omega
     ·left;exact h1
    ·rcases h2 with h2|⟨rfl,h2⟩
     ·left;exact h2
     ·right;exact⟨rfl,ih b c h1 h2⟩
theorem xJ: ∀(a b:List Nat),a.length=b.length→a≠b→rowLess a b=true∨rowLess b a=true:=by
 intro a
 induction a with
 |nil=>intro b hl df;cases b with
  |nil=>exact absurd rfl df
  |cons y b=>simp at hl
 |cons x a ih=>
  intro b hl df
  cases b with
  |nil=>simp at hl
  |cons y b=>
   simp only[rowLess,eY,aG,aN,cV]
   rcases iK x y with h|h|h
   ·exact .inl (.inl h)
   ·subst h
    rcases ih b (by simpa using hl) (fun e=>df (by rw[e]))with h2|h2
    ·exact .inl (.inr ⟨rfl,h2⟩)
    ·exact .inr (.inr ⟨rfl,h2⟩)
   ·exact .inr (.inl h)
theorem tX(r:List Nat)(l:List (List Nat)):(putRow r l).Perm (r::l):=by
 induction l with
 |nil=>exact gH _
 |cons s l ih=>
  rw[putRow]
  split
  ·exact(List.Perm.cons s ih).trans (List.Perm.swap r s l)
  ·exact gH _
def mR(l:List (List Nat)):Prop:=l.Pairwise (fun a b=>rowLess a b=true)
theorem xK{k:Nat}(r:List Nat)(l:List (List Nat))(hr:r.length=k)(hl: ∀s∈l,s.length=k)(hn:r∉l)(hs:mR l):mR (putRow r l):=by
 induction l with
 |nil=>simp[putRow,mR]
 |cons s l ih=>
  unfold mR at hs
  rw[cu]at hs
  rw[putRow]
  split
  ·rename_i eI
   unfold mR
   rw[cu]
   refine⟨?_,ih (fun x hx=>hl x (by simp[hx])) (fun hx=>hn (by simp[hx])) hs.2⟩
   intro x hx
   rcases aH.1 ((tX r l).mem_iff.1 hx)with rfl|hx
   ·exact eI
   ·exact hs.1 x hx
  ·rename_i Xa
   have kf:rowLess r s=true:=by
    rcases xJ r s (by rw[hr,hl s (by simp)]) (fun e=>hn (by simp[e]))with h|h
    ·exact h
    ·exact absurd h Xa
   unfold mR
   rw[cu,cu]
   refine⟨?_,hs.1,hs.2⟩
   intro x hx
   rcases aH.1 hx with rfl|hx
   ·exact kf
   ·exact xI _ _ _ kf (hs.1 x hx)
theorem F1{k:Nat}(l:List (List Nat))(hl: ∀s∈l,s.length=k)(hn:l.Nodup):(l.foldr putRow []).Perm l∧mR (l.foldr putRow []):=by
 induction l with
 |nil=>exact⟨gH _,by simp[mR]⟩
 |cons r l ih=>
  rw[bV]at hn
  obtain⟨h1,h2⟩:=ih (fun s hs=>hl s (by simp[hs])) hn.2
  rw[List.foldr_cons]
  refine⟨(tX r _).trans (List.Perm.cons r h1),?_⟩
  apply xK (k:=k) r _ (hl r (by simp)) (fun s hs=>hl s (by simp[h1.mem_iff.1 hs])) (fun hx=>hn.1 (h1.mem_iff.1 hx)) h2
structure vJ(f:Facts)(p:Nat)(row:List Nat):Prop where
 len:row.length=f.many
 lt: ∀x∈row,x<p
 LX:1≤val row 0
 sq:val row 0*val row 0≤f.n
 mul: ∀i j,i<f.many→j<f.many→(f.sizeOf_ i*val row i*(f.sizeOf_ j*val row j)) % p=
  (val row 0*((List.range f.many).map fun c=>f.ways i j (f.reps.getD c 0)*(f.sizeOf_ c*val row c)).sum) % p
 norm:((List.range f.many).map fun i=>f.sizeOf_ i*(val row i*val row (f.opp.getD i 0))).sum % p=f.n % p
def under(f:Facts)(p i:Nat):Nat:=(f.size.map fun s=>underOf p s).getD i 0
def rA(f:Facts)(p:Nat)(W:Nat→Nat):Nat:=((List.range f.many).map fun i=>W i*(W (f.opp.getD i 0)*under f p i) % p).sum % p
def oK(f:Facts)(p:Nat)(W:Nat→Nat):Option Nat:=(List.range (f.n+1)).find? fun d=>decide (1≤d)&&(decide (d*d≤f.n)&&d*d*rA f p W % p==f.n % p)
def rowOf(f:Facts)(p d:Nat)(W:Nat→Nat):List Nat:=(List.range f.many).map fun i=>d*(W i*under f p i) % p
theorem Ik(f:Facts)(p:Nat):f.chars p=((allWorths f p f.products f.many [0] [none_ f]).filterMap fun v=>(oK f p (wv v)).map fun d=>rowOf f p d (wv v)).foldr putRow []:=rfl
theorem zr{p a:Nat}(hp:gR p)(ha: ¬p∣a):underOf p a<p∧a*underOf p a % p=1:=by
 have df:NeZero p:=⟨by have:=hp.1;omega⟩
 have h2:=hp.1
 have h0:(nc a:Fin p)≠0:=by
  rw[eD,eH]
  exact fun e=>ha (dB e)
 obtain⟨b,hb⟩:=mL hp _ h0
 have h3:a*b.val % p=1:=by
  have h4:(nc (a*b.val):Fin p)=nc 1:=by rw[cf,gO,hb,gN]
  rw[dn,aM (show 1<p by omega)]at h4
  exact h4
 have h1:((List.range p).find? fun y=>a*y % p==1).isSome:=by
  rw[List.find?_isSome]
  exact⟨b.val,by simp,by simpa using h3⟩
 obtain⟨y,hy⟩:=dM.1 h1
 unfold underOf
 rw[hy,de]
 have h5:=List.find?_some hy
 have h6:=List.mem_of_find?_eq_some hy
 exact⟨by simpa using h6,by simpa using h5⟩
section
variable{g:Grp}(h:jO g){p:Nat} [NeZero p]
theorem LY(g:Grp){i:Nat}(hi:i<(factsOf g).many):(factsOf g).size.length=(factsOf g).many:=by
 have h1:(factsOf g).size=(List.range (factsOf g).many).map fun i=>((factsOf g).cls.filter fun x=>x==i).length:=rfl
 rw[h1];simp
include h in
theorem CP(sr:g.n<p){i:Nat}(hi:i<(factsOf g).many): ¬p∣(factsOf g).sizeOf_ i:=by
 intro hd
 have h1:=(classes h).size_pos ⟨i,hi⟩
 have h2:=(classes h).size_le ⟨i,hi⟩
 rw[pH]at h1 h2
 change 0<(factsOf g).sizeOf_ i at h1
 change(factsOf g).sizeOf_ i≤g.n at h2
 have:=jZ h1 hd
 omega
include h in
theorem vK(hp:gR p)(sr:g.n<p){i:Nat}(hi:i<(factsOf g).many):under (factsOf g) p i<p∧(factsOf g).sizeOf_ i*under (factsOf g) p i % p=1:=by
 have h1:under (factsOf g) p i=underOf p ((factsOf g).sizeOf_ i):=by
  have hl:=LY g hi
  rw[under,cP _ _ _ (by rw[ae,hl];exact hi),Facts.sizeOf_,cP _ _ _ (by rw[hl];exact hi)]
  simp
 rw[h1]
 exact zr hp (CP h sr hi)
def jS(g:Grp)(p:Nat) [NeZero p](i:Fin (factsOf g).many):Fin p:=nc (under (factsOf g) p i.val)
theorem jx(hp:gR p)(sr:g.n<p)(i:Fin (factsOf g).many):(nc ((classes h).size i):Fin p)*jS g p i=1:=by
 have h1:=(vK h hp sr i.isLt).2
 rw[pH,jS,←cf,←gN,dn,h1,aM]
 have:=hp.1;omega
theorem LZ(W:Nat→Nat):(classes h).norm (jS g p) (fun i=>nc (W i.val))=nc (rA (factsOf g) p W):=by
 rw[rA,rp,fG,Cl.norm]
 apply bp
 intro i
 rw[rp,cf,cf,zp];rfl
theorem lu(d:Nat)(W:Nat→Nat):(nc (d*d)*(classes h).norm (jS g p) (fun i=>nc (W i.val))=(nc g.n:Fin p))↔d*d*rA (factsOf g) p W % p=g.n % p:=by
 rw[LZ,←cf,dn]
include h in
theorem CQ(hp:gR p)(Cj:2*g.n<p){s d e:Nat}(hd:d*d≤g.n)(he:e*e≤g.n)(h1:d*d*s % p=g.n % p)(h2:e*e*s % p=g.n % p):d=e:=by
 have rB:=h.pos
 have Il:(nc g.n:Fin p)≠0:=by
  rw[eD,eH,aM (by omega)];omega
 rw[←dn (p:=p)]at h1 h2
 rw[cf]at h1 h2
 have hs:(nc s:Fin p)≠0:=by
  intro h0;rw[h0,aR]at h1;exact Il h1.symm
 have h3:(nc (d*d):Fin p)=nc (e*e):=by
  apply dH hp hs
  rw[gG,h1,gG,h2]
 rw[dn,aM (by omega),aM (by omega)]at h3
 rcases iK d e with h4|h4|h4
 ·have:=Nat.mul_self_lt_mul_self h4;omega
 ·exact h4
 ·have:=Nat.mul_self_lt_mul_self h4;omega
include h in
theorem vL(hp:gR p)(Cj:2*g.n<p){W:Nat→Nat}{d:Nat}(vf:1≤d)(hd:d*d≤g.n)(hs:d*d*rA (factsOf g) p W % p=g.n % p):oK (factsOf g) p W=some d:=by
 have Lo:d≤g.n:=bW (cH d (by omega)) hd
 have h1:(oK (factsOf g) p W).isSome:=by
  unfold oK
  rw[List.find?_isSome]
  refine⟨d,by rw[aD];show d<g.n+1;omega,?_⟩
  simp only[aN,aG,cV]
  exact⟨vf,hd,hs⟩
 obtain⟨e,he⟩:=dM.1 h1
 have h2:=List.find?_some he
 simp only[aN,aG,cV]at h2
 rw[he,CQ h hp Cj hd h2.2.1 hs h2.2.2]
theorem gx{f:Facts}{p d i:Nat}{W:Nat→Nat}(hi:i<f.many):val (rowOf f p d W) i=d*(W i*under f p i) % p:=by
 rw[val,rowOf,dt _ _ _ _ hi]
include h in
theorem mS(hp:gR p)(sr:g.n<p):under (factsOf g) p 0=1:=by
 have hm:=eU h h.pos
 have h1:=vK h hp sr hm
 have h2:(factsOf g).sizeOf_ 0=1:=by
  have h3:=pH h ⟨0,hm⟩
  have e0:(⟨0,hm⟩:Fin (factsOf g).many)=(classes h).cl (gp h).one:=du (gP h).symm
  rw[e0,(classes h).rh]at h3
  have e1:((classes h).cl (gp h).one).val=0:=gP h
  rw[e1]at h3
  exact h3.symm
 rw[h2,Nat.one_mul,aM h1.1]at h1
 exact h1.2
include h in
include h in
theorem vO(hp:gR p)(Cj:2*g.n<p){W:Nat→Nat}(hW: ∀i,i<(factsOf g).many→W i<p)(H:(classes h).Cv (fun i=>(nc (W i.val):Fin p))){d:Nat}(vf:1≤d)(hd:d*d≤g.n)
  (hs:d*d*rA (factsOf g) p W % p=g.n % p):vJ (factsOf g) p (rowOf (factsOf g) p d W):=by
 have hm:=eU h h.pos
 have sr:g.n<p:=by omega
 have uH:=hp.1
 have Lo:d≤g.n:=bW (cH d (by omega)) hd
 have hH:=(zq h uH W).1 H
 have Xb:W 0=1:=by rw[←hH.1,aM (hW 0 hm)]
 have Xc:val (rowOf (factsOf g) p d W) 0=d:=by
  rw[gx hm,mS h hp sr,Xb,Nat.mul_one,aM (by omega)]
 have PH: ∀i:Fin (factsOf g).many,(nc ((factsOf g).sizeOf_ i.val):Fin p)*nc (val (rowOf (factsOf g) p d W) i.val)=nc d*nc (W i.val):=by
  intro i
  rw[gx i.isLt,rp,cf,cf]
  have:=jx h hp sr i
  rw[pH,jS]at this
  grind
 have Xd: ∀i:Fin (factsOf g).many,(nc (val (rowOf (factsOf g) p d W) i.val):Fin p)=nc d*nc (W i.val)*jS g p i:=by
  intro i
  rw[gx i.isLt,rp,cf,cf,jS]
  grind
 refine⟨by simp[rowOf],?_,by rw[Xc];exact vf,by rw[Xc];exact hd,?_,?_⟩
 ·intro x hx
  obtain⟨i,_,rfl⟩:=ay.1 hx
  exact p0 _ (by omega)
 ·intro i j hi hj
  rw[Xc,←dn (p:=p),cf,cf,cf,cf,fG,PH ⟨i,hi⟩,PH ⟨j,hj⟩]
  have e:fs (fun c:Fin (factsOf g).many=>(nc ((factsOf g).ways i j ((factsOf g).reps.getD c.val 0)*((factsOf g).sizeOf_ c.val*val (rowOf (factsOf g) p d W) c.val)):Fin p))=
    fs (fun c:Fin (factsOf g).many=>nc d*(nc ((classes h).ways ⟨i,hi⟩ ⟨j,hj⟩ ((classes h).rep c))*nc (W c.val))):=by
   apply bp
   intro c
   rw[cf,cf,PH,mO,cP _ _ _ c.isLt]
   show _=nc d*(nc ((factsOf g).ways i j ((factsOf g).reps[c.val]'c.isLt))*nc (W c.val))
   grind
  rw[e,←eS,←H.mul ⟨i,hi⟩ ⟨j,hj⟩]
  grind
 ·rw[←dn (p:=p),fG]
  have PJ:=(lu h d W).2 hs
  show _=nc g.n
  rw[←PJ,Cl.norm,eS]
  apply bp
  intro i
  rw[cf,cf,←aa,PH,←zp h i,Xd]
  have uo:jS g p ((classes h).opp i)=jS g p i:=by
   have e1:=jx h hp sr i
   have e2:=jx h hp sr ((classes h).opp i)
   rw[(classes h).rj]at e2
   grind
  rw[uo,cf]
  grind
include h in
theorem CS(hp:gR p)(Cj:2*g.n<p){row:List Nat}(R:vJ (factsOf g) p row):
  ∃w:Fin (factsOf g).many→Fin p,(classes h).Cv w∧∀W:Nat→Nat,(∀i:Fin (factsOf g).many,W i.val=(w i).val)→
   val row 0*val row 0*rA (factsOf g) p W % p=g.n % p∧row=rowOf (factsOf g) p (val row 0) W:=by
 have hm:=eU h h.pos
 have sr:g.n<p:=by omega
 have uH:=hp.1
 have vf:=R.LX
 have hd:val row 0*val row 0≤g.n:=R.sq
 have Lo:val row 0≤g.n:=bW (cH _ (by omega)) hd
 have Tf:(nc (val row 0):Fin p)≠0:=by
  rw[eD,eH,aM (by omega)];omega
 obtain⟨di,hdi⟩:=mL hp _ Tf
 let w:Fin (factsOf g).many→Fin p:=fun i=>nc ((factsOf g).sizeOf_ i.val)*nc (val row i.val)*di
 have hsz: ∀i:Fin (factsOf g).many,(nc ((factsOf g).sizeOf_ i.val):Fin p)*jS g p i=1:=by
  intro i;rw[←pH h i];exact jx h hp sr i
 have hz:(factsOf g).sizeOf_ 0=1:=by
  have h3:=pH h ⟨0,hm⟩
  have e0:(⟨0,hm⟩:Fin (factsOf g).many)=(classes h).cl (gp h).one:=du (gP h).symm
  rw[e0,(classes h).rh]at h3
  have e1:((classes h).cl (gp h).one).val=0:=gP h
  rw[e1]at h3
  exact h3.symm
 have H:(classes h).Cv w:=by
  constructor
  ·show nc ((factsOf g).sizeOf_ ((classes h).cl (gp h).one).val)*nc (val row ((classes h).cl (gp h).one).val)*di=1
   rw[gP,hz,gN,aP,hdi]
  ·intro i j
   have h1:=R.mul i.val j.val i.isLt j.isLt
   rw[←dn (p:=p),cf,cf,cf,cf,fG]at h1
   have e:fs (fun c:Fin (factsOf g).many=>nc ((classes h).ways i j ((classes h).rep c))*w c)=
     fs (fun c:Fin (factsOf g).many=>(nc ((factsOf g).ways i.val j.val ((factsOf g).reps.getD c.val 0)*((factsOf g).sizeOf_ c.val*val row c.val)):Fin p))*di:=by
    rw[eT]
    apply bp
    intro c
    rw[cf,cf,mO,cP _ _ _ c.isLt]
    show nc ((factsOf g).ways i.val j.val ((factsOf g).reps[c.val]'c.isLt))*(nc ((factsOf g).sizeOf_ c.val)*nc (val row c.val)*di)=_
    grind
   rw[e]
   show nc ((factsOf g).sizeOf_ i.val)*nc (val row i.val)*di*(nc ((factsOf g).sizeOf_ j.val)*nc (val row j.val)*di)=_
   grind
 refine⟨w,H,?_⟩
 intro W hW
 have VZ:(fun i:Fin (factsOf g).many=>(nc (W i.val):Fin p))=w:=by
  funext i;rw[hW,gO]
 have uo: ∀i,jS g p ((classes h).opp i)=jS g p i:=by
  intro i
  have e1:=jx h hp sr i
  have e2:=jx h hp sr ((classes h).opp i)
  rw[(classes h).rj]at e2
  grind
 constructor
 ·rw[←lu h,VZ]
  have h1:=R.norm
  rw[←dn (p:=p),fG]at h1
  have Hw:fs (fun i:Fin (factsOf g).many=>(nc ((factsOf g).sizeOf_ i.val*(val row i.val*val row ((factsOf g).opp.getD i.val 0))):Fin p))=nc g.n:=h1
  rw[←Hw,Cl.norm,eS]
  apply bp
  intro i
  rw[cf,cf,cf,←zp h i]
  show nc (val row 0)*nc (val row 0)*(nc ((factsOf g).sizeOf_ i.val)*nc (val row i.val)*di*(nc ((factsOf g).sizeOf_ ((classes h).opp i).val)*nc (val row ((classes h).opp i).val)*di*jS g p i))=_
  have e1:=hsz ((classes h).opp i)
  rw[uo]at e1
  grind
 ·apply bO
  ·rw[R.len];simp[rowOf]
  ·intro i hi hj
   have pU:i<(factsOf g).many:=by rw[←R.len];exact hi
   have e1:row[i]=val row i:=by rw[val,cP _ _ _ hi]
   have e2:(rowOf (factsOf g) p (val row 0) W)[i]=val (rowOf (factsOf g) p (val row 0) W) i:=(cP _ _ _ hj).symm
   have eI:row[i]<p:=R.lt _ (cn hi)
   rw[e2,gx pU,←aM eI,←dn (p:=p),e1,cf,cf]
   have e3:=congrFun VZ ⟨i,pU⟩
   simp only[]at e3
   rw[e3]
   show nc (val row i)=nc (val row 0)*(nc ((factsOf g).sizeOf_ i)*nc (val row i)*di*jS g p ⟨i,pU⟩)
   have e4:=hsz ⟨i,pU⟩
   simp only[]at e4
   grind
include h in
theorem ky(g6:g.n≤24)(hp:gR p)(Cj:2*g.n<p)(pV: ∀a,(gp h).pow a p=a):
  mR ((factsOf g).chars p)∧((factsOf g).chars p).length=(factsOf g).many∧∀row,row∈(factsOf g).chars p↔vJ (factsOf g) p row:=by
 have uH:=hp.1
 have hm:=eU h h.pos
 obtain⟨hn,i8⟩:=vG h (p:=p) uH
 obtain⟨Ws,VZ,hWl,hWm,hWd⟩:=(classes h).Py hp h.pos g6 (by omega) pV (jS g p) (jx h hp (by omega))
 rw[Ik]
 generalize allWorths (factsOf g) p (factsOf g).products (factsOf g).many [0] [none_ (factsOf g)]=L at*
 have eI: ∀v∈L,∀i,i<(factsOf g).many→wv v i<p:=by
  intro v hv i hi
  obtain⟨x,hx,e⟩:=((i8 v).1 hv).known i hi (by simpa using hi)
  rw[wv,e];exact hx
 have PK: ∀v∈L,(classes h).Cv (fun i=>(nc (wv v i.val):Fin p)):=fun v hv=>Ij h uH ((i8 v).1 hv)
 have L0: ∀v∈L,∃d,oK (factsOf g) p (wv v)=some d∧1≤d∧d*d≤g.n∧d*d*rA (factsOf g) p (wv v) % p=g.n % p:=by
  intro v hv
  obtain⟨d,vf,hd2,Hv⟩:=hWd _ (PK v hv)
  have:=(lu h d (wv v)).1 Hv
  exact⟨d,vL h hp Cj vf hd2 this,vf,hd2,this⟩
 have Of: ∀v∈L,∀v'∈L,(∀i,i<(factsOf g).many→wv v i=wv v' i)→v=v':=by
  intro v hv v' vz e
  have H:=(i8 v).1 hv
  have H':=(i8 v').1 vz
  apply mQ (by rw[H.len,H'.len])
  intro c hc
  rw[H.len]at hc
  obtain⟨x,_,ex⟩:=H.known c hc (by simpa using hc)
  obtain⟨y,_,ey⟩:=H'.known c hc (by simpa using hc)
  have:=e c hc
  rw[wv,wv,ex,ey]at this
  rw[ex,ey];exact ba some this
 have hlen:L.length=(factsOf g).many:=by
  rw[←hWl]
  have xD:(L.map (fun v=>(fun i:Fin (factsOf g).many=>(nc (wv v i.val):Fin p)))).Nodup:=by
   apply cR hn
   intro v hv v' vz e
   apply Of v hv v' vz
   intro i hi
   have:=congrFun e ⟨i,hi⟩
   simp only[dn]at this
   rw[aM (eI v hv i hi),aM (eI v' vz i hi)]at this
   exact this
  have PL:(L.map (fun v=>(fun i:Fin (factsOf g).many=>(nc (wv v i.val):Fin p)))).Perm Ws:=by
   classical
   apply cX xD VZ
   intro w
   rw[hWm,ay]
   constructor
   ·rintro⟨v,hv,rfl⟩;exact PK v hv
   ·intro H
    obtain⟨v,hv,e⟩:=A7 h uH H
    refine⟨v,(i8 v).2 hv,?_⟩
    funext i
    rw[e,gO]
  have:=PL.length_eq
  rwa [ae]at this
 have j7:L.filterMap (fun v=>(oK (factsOf g) p (wv v)).map fun d=>rowOf (factsOf g) p d (wv v))=L.map (fun v=>rowOf (factsOf g) p ((oK (factsOf g) p (wv v)).getD 0) (wv v)):=by
  have key: ∀M:List Worths,(∀v∈M,v∈L)→M.filterMap (fun v=>(oK (factsOf g) p (wv v)).map fun d=>rowOf (factsOf g) p d (wv v))=M.map (fun v=>rowOf (factsOf g) p ((oK (factsOf g) p (wv v)).getD 0) (wv v)):=by
   intro M hM
   induction M with
   |nil=>rfl
   |cons v M ih=>
    obtain⟨d,hd,_⟩:=L0 v (hM v (by simp))
    rw[a6,←ih (fun x hx=>hM x (by simp[hx])),oz]
    simp[hd]
  exact key L (fun v hv=>hv)
 rw[j7]
 have kZ: ∀s∈L.map (fun v=>rowOf (factsOf g) p ((oK (factsOf g) p (wv v)).getD 0) (wv v)),s.length=(factsOf g).many:=by
  intro s hs
  obtain⟨v,_,rfl⟩:=ay.1 hs
  simp[rowOf]
 have hrn:(L.map (fun v=>rowOf (factsOf g) p ((oK (factsOf g) p (wv v)).getD 0) (wv v))).Nodup:=by
  apply cR hn
  intro v hv v' vz e
  obtain⟨d,hd,vf,hd2,Hv⟩:=L0 v hv
  obtain⟨d',Ll,ab8,Xe,ab9⟩:=L0 v' vz
  rw[hd,Ll,de,de]at e
  have Lo:d≤g.n:=bW (cH d (by omega)) hd2
  have aca:d'≤g.n:=bW (cH d' (by omega)) Xe
  have vF: ∀i,i<(factsOf g).many→d*(wv v i*under (factsOf g) p i) % p=d'*(wv v' i*under (factsOf g) p i) % p:=by
   intro i hi
   rw[←gx hi,←gx hi,e]
  have e0:=vF 0 hm
  have f1:wv v 0=1:=by rw[wv,((i8 v).1 hv).first];rfl
  have f2:wv v' 0=1:=by rw[wv,((i8 v').1 vz).first];rfl
  rw[mS h hp (by omega),f1,f2,Nat.mul_one,Nat.mul_one,aM (by omega),aM (by omega)]at e0
  subst e0
  apply Of v hv v' vz
  intro i hi
  have e1:=vF i hi
  rw[←dn (p:=p),cf,cf,cf,cf]at e1
  have Tf:(nc d:Fin p)≠0:=by rw[eD,eH,aM (by omega)];omega
  have e2:=dH hp Tf e1
  have e3:=jx h hp (by omega) ⟨i,hi⟩
  rw[jS]at e3
  have e4:(nc (wv v i):Fin p)=nc (wv v' i):=by
   have e5:(nc (wv v i):Fin p)=nc ((classes h).size ⟨i,hi⟩)*(nc (wv v i)*nc (under (factsOf g) p i)):=by
    simp only[]at e3
    grind
   have e6:(nc (wv v' i):Fin p)=nc ((classes h).size ⟨i,hi⟩)*(nc (wv v' i)*nc (under (factsOf g) p i)):=by
    simp only[]at e3
    grind
   rw[e5,e6,e2]
  rw[dn,aM (eI v hv i hi),aM (eI v' vz i hi)]at e4
  exact e4
 obtain⟨s1,s2⟩:=F1 _ kZ hrn
 refine⟨s2,?_,?_⟩
 ·rw[s1.length_eq,ae,hlen]
 ·intro row
  rw[s1.mem_iff,ay]
  constructor
  ·rintro⟨v,hv,rfl⟩
   obtain⟨d,hd,vf,hd2,Hv⟩:=L0 v hv
   rw[hd,de]
   exact vO h hp Cj (eI v hv) (PK v hv) vf hd2 Hv
  ·intro R
   obtain⟨w,H,hw⟩:=CS h hp Cj R
   obtain⟨v,hv,e⟩:=A7 h uH H
   obtain⟨e1,e2⟩:=hw (wv v) e
   refine⟨v,(i8 v).2 hv,?_⟩
   have RZ:=vL h hp Cj R.LX R.sq e1
   simp only[RZ,de]
   exact e2.symm
end
end Sp
end
section
namespace Sp
open Rd01 Ch
def cI(g:Grp):List (List Int):=(rowsOf g).map fun r=>r.map fun(x:Nat)=>(x:Int)
def vQ(g:Grp):List Int:=(List.range g.n).map fun a=>((factsOf g).inverse a:Int)
def sM(g:Grp):List Int:=(List.range g.n).map fun a=>((factsOf g).classOf a:Int)
def sizeZ(g:Grp):List Int:=(List.range (factsOf g).many).map fun i=>((factsOf g).sizeOf_ i:Int)
def mT(g:Grp)(m:Nat):List Int:=(List.range g.n).map fun a=>((factsOf g).pow a m:Int)
section
variable{g:Grp}(h:jO g)
theorem mU(g:Grp):(rowsOf g).length=g.n:=by simp[rowsOf,all_]
theorem ek(g:Grp):(cI g).length=g.n:=by rw[cI,ae,mU]
theorem vR(g:Grp){a:Nat}(ha:a<g.n):(cI g).getD a []=((g.t.drop (a*g.n)).take g.n).map fun(x:Nat)=>(x:Int):=by
 rw[cI,cP _ _ _ (by rw[ae,mU];exact ha),bY]
 congr 1
 rw[←cP _ [] _ (by rw[mU];exact ha),CA g a ha]
include h in
theorem dG{a:Nat}(ha:a<g.n):((cI g).getD a []).length=g.n:=by
 rw[vR g ha,ae,cT,eF,h.len]
 have:=CB ha ha
 have h2:(a+1)*g.n≤g.n*g.n:=eN g.n (by omega)
 rw[qN]at h2
 omega
include h in
theorem jl{a b:Nat}(ha:a<g.n)(hb:b<g.n):((cI g).getD a []).getD b 0=((factsOf g).mul a b:Int):=by
 rw[cP _ _ _ (by rw[dG h ha];exact hb)]
 have e1:(factsOf g).mul a b=times (rowsOf g) a b:=rfl
 rw[e1,times,CA g a ha]
 have e2:(cI g).getD a []=((g.t.drop (a*g.n)).take g.n).map fun(x:Nat)=>(x:Int):=vR g ha
 have hlen:b<((g.t.drop (a*g.n)).take g.n).length:=by
  have:=dG h ha
  rw[e2,ae]at this
  omega
 rw[cP _ _ _ hlen]
 simp only[e2,bY]
include h in
theorem F2{r:List Int}(hr:r∈cI g):r.length=g.n∧∀x∈r,0≤x∧x<(g.n:Int):=by
 obtain⟨i,hi,rfl⟩:=gm hr
 have pU:i<g.n:=by rw[ek]at hi;exact hi
 have e:(cI g)[i]=(cI g).getD i []:=(cP _ _ _ hi).symm
 rw[e]
 refine⟨dG h pU,?_⟩
 intro x hx
 obtain⟨j,hj,rfl⟩:=gm hx
 have L1:j<g.n:=by rw[dG h pU]at hj;exact hj
 rw[←cP _ 0 _ hj,jl h pU L1]
 have:=jQ h pU L1
 omega
theorem kz(g:Grp)(m:Nat):(mT g m).length=g.n:=by simp[mT]
include h in
theorem pow_one{a:Nat}(ha:a<g.n):(factsOf g).pow a 1=a:=h.ya a ha
include h in
theorem Im:mT g 1=(List.range g.n).map fun i=>((i:Nat):Int):=by
 apply bM
 intro a ha
 rw[pow_one h (aD.mp ha)]
theorem A8(g:Grp)(m:Nat):((mT g m).any fun k=>k !=0)=false↔ ∀a,a<g.n→(factsOf g).pow a m=0:=by
 rw[List.any_eq_false]
 constructor
 ·intro h1 a ha
  have:=h1 _ (ay.mpr ⟨a,aD.mpr ha,rfl⟩)
  simp at this
  omega
 ·intro h1 x hx
  obtain⟨a,ha,rfl⟩:=ay.mp hx
  rw[h1 a (aD.mp ha)]
  simp
theorem A9(g:Grp):(factsOf g).reps.Pairwise (·<·):=by
 rw[rm]
 exact gY.filter _
theorem vT: ∀(l:List Nat),l.Pairwise (·<·)→∀(i:Nat)(hi:i<l.length),(l.filter fun x=>decide (x<l[i])).length=i
 |[],_,i,hi=>by simp at hi
 |a::l,hs,i,hi=>by
  rw[cu]at hs
  cases i with
  |zero=>
   have:(a::l).filter (fun x=>decide (x<(a::l)[0]))=[]:=by
    rw[List.filter_eq_nil_iff]
    intro x hx
    simp only[List.getElem_cons_zero,aG]
    rcases aH.mp hx with rfl|hx
    ·omega
    ·have:=hs.1 x hx;omega
   rw[this];rfl
  |succ i=>
   have pU:i<l.length:=by simpa using hi
   have h1:=vT l hs.2 i pU
   have h2:a<l[i]:=hs.1 _ (cn pU)
   simp only[List.getElem_cons_succ]
   rw[gF,aO (by simpa using h2),aC,h1]
include h in
theorem xM{a:Nat}(ha:a<g.n):(factsOf g).classOf a=((factsOf g).reps.filter fun x=>decide (x<dQ g a)).length:=by
 obtain⟨hi,e⟩:=eu h ha
 rw[←e]
 exact(vT _ (A9 g) _ hi).symm
def below(g:Grp)(i:Nat):Nat:=((factsOf g).reps.filter fun x=>decide (x<i)).length
theorem CT(g:Grp):below g 0=0:=by
 unfold below
 rw[List.filter_eq_nil_iff.mpr]
 ·rfl
 ·intro x _;simp
theorem oM: ∀(l:List Nat),l.Nodup→∀i,(l.filter fun x=>decide (x<i+1)).length=(l.filter fun x=>decide (x<i)).length+if i∈l then 1 else 0
 |[],_,i=>by simp
 |a::l,hn,i=>by
  rw[bV]at hn
  have ih:=oM l hn.2 i
  rw[gF,gF]
  by_cases h1:a=i
  ·subst h1
   rw[aO (by simp),aI (by simp),aC,ih,aI hn.1,aO (by simp)]
  ·have i8:i∈a::l↔i∈l:=by
    simp only[aH]
    exact⟨fun h=>h.resolve_left (fun e=>h1 e.symm),.inr⟩
   by_cases h2:a<i
   ·rw[aO (by simp;omega),aO (by simpa using h2),aC,aC,ih]
    by_cases h3:i∈l
    ·rw[aO h3,aO (i8.2 h3)]
    ·rw[aI h3,aI (fun x=>h3 (i8.1 x))]
   ·rw[aI (by simp;omega),aI (by simpa using h2),ih]
    by_cases h3:i∈l
    ·rw[aO h3,aO (i8.2 h3)]
    ·rw[aI h3,aI (fun x=>h3 (i8.1 x))]
include h in
theorem vU{i:Nat}(hi:i<g.n):below g (i+1)=below g i+if dQ g i=i then 1 else 0:=by
 unfold below
 rw[oM _ (vt g)]
 congr 1
 by_cases h1:dQ g i=i
 ·rw[aO h1,aO ((oH h).2 ⟨hi,h1⟩)]
 ·rw[aI h1,aI (fun x=>h1 ((oH h).1 x).2)]
include h in
theorem Io{a:Nat}(ha:a<g.n):dQ g a≤a:=by
 apply least_le
 rw[ay]
 refine⟨0,aD.mpr h.pos,?_⟩
 have h0:(factsOf g).inverse 0=0:=by
  have:=ba Fin.val (gp h).inv_one
  exact this
 rw[cj,h.ya a ha,h0,h.yb a ha]
end
end Sp
end
section
namespace Ch
open Lean.Grind (Semiring Ring CommRing CommSemiring)
section
variable{p:Nat} [NeZero p]
def ic(i:Int):Fin p:=nc (i % (p:Int)).toNat
theorem p_pos:0<p:=Nat.pos_of_ne_zero (NeZero.ne p)
theorem jT(i:Int):(((ic i:Fin p).val:Nat):Int)=i % (p:Int):=by
 have h0:(0:Int)<(p:Int):=by have:=p_pos (p:=p);omega
 have h1:=Int.emod_nonneg i (show(p:Int)≠0 by omega)
 have h2:=Int.emod_lt_of_pos i h0
 rw[ic,eH,aM (by omega)]
 omega
theorem yd(a b:Int):(ic a:Fin p)=ic b↔a % (p:Int)=b % (p:Int):=by
 constructor
 ·intro h
  rw[←jT,←jT,h]
 ·intro h
  apply du
  have:=(jT (p:=p) a).trans (h.trans (jT b).symm)
  omega
theorem mV(a:Int):(ic (a % (p:Int)):Fin p)=ic a:=by
 rw[yd,Int.emod_emod_of_dvd _ (Int.dvd_refl _)]
theorem lx{a b:Fin p}(h:((a.val:Nat):Int)=((b.val:Nat):Int)):a=b:=by
 apply du;omega
theorem zt(a b:Int):(ic (a+b):Fin p)=ic a+ic b:=by
 apply lx
 rw[jT,Fin.val_add]
 push_cast
 rw[jT,jT,←Int.add_emod]
theorem sN(a b:Int):(ic (a*b):Fin p)=ic a*ic b:=by
 apply lx
 rw[jT,Fin.val_mul]
 push_cast
 rw[jT,jT,←Int.mul_emod]
theorem g7:(ic 0:Fin p)=0:=by
 apply lx
 rw[jT,Int.zero_emod]
 rfl
theorem kC(k:Nat):(ic (k:Int):Fin p)=nc k:=by
 apply lx
 rw[jT,eH]
 push_cast
 rfl
theorem Ip:(ic 1:Fin p)=1:=by
 have:=kC (p:=p) 1
 rw[gN]at this
 exact this
theorem PM(a:Int):(ic (-a):Fin p)= -ic a:=by
 have h:(ic (-a):Fin p)+ic a=0:=by
  rw[←zt,Int.add_left_neg,g7]
 grind
theorem vV{a b:Int}(WZ:0≤a)(ha:a<p)(Iq:0≤b)(hb:b<p)(h:(ic a:Fin p)=ic b):a=b:=by
 rw[yd,Int.emod_eq_of_lt WZ ha,Int.emod_eq_of_lt Iq hb]at h
 exact h
theorem CU(a:Fin p):(ic (a.val:Int):Fin p)=a:=by rw[kC,gO]
theorem mW{a:Int}(h0:0≤a)(ha:a<p):(ic a:Fin p)=0↔a=0:=by
 constructor
 ·intro h
  rw[←g7]at h
  exact vV h0 ha (kr 0) (by have:=p_pos (p:=p);omega) h
 ·rintro rfl;exact g7
end
section
variable{p:Nat} [NeZero p]
def ev(l:List (Fin p))(x:Fin p):Fin p:=l.foldr (fun a v=>v*x+a) 0
theorem sO(x:Fin p):ev [] x=0:=rfl
theorem fW(a:Fin p)(l:List (Fin p))(x:Fin p):ev (a::l) x=ev l x*x+a:=rfl
def qu(x:Fin p):List (Fin p)→List (Fin p)
 |[]=>[]
 |a::t=>ev (a::t) x::qu x t
theorem CV(x:Fin p): ∀l:List (Fin p),(qu x l).length=l.length
 |[]=>rfl
 |a::t=>by rw[qu,aC,aC,CV x t]
theorem zu(x y:Fin p): ∀(l:List (Fin p))(a:Fin p),ev (a::l) y=(y-x)*ev (qu x l) y+ev (a::l) x
 |[],a=>by
  simp only[fW,sO,qu]
  grind
 |b::t,a=>by
  have ih:=zu x y t b
  rw[fW a,fW a,qu,fW (ev (b::t) x)]
  generalize ev (b::t) x=B at*
  generalize ev (qu x t) y=Q at*
  rw[ih]
  grind
def Mon(l:List (Fin p)):Prop:=l.getLast?=some 1
theorem CW(x:Fin p): ∀(l:List (Fin p)),Mon l→Mon (qu x l)
 |[],h=>by simp[Mon]at h
 |[a],h=>by
  have e:a=1:=by simpa[Mon]using h
  subst e
  show some (ev [1] x)=some 1
  simp only[fW,sO]
  congr 1
  grind
 |a::b::t,h=>by
  have h1:Mon (b::t):=by
   have:(a::b::t).getLast?=(b::t).getLast?:=by simp[gJ]
   unfold Mon at h
   rw[this]at h
   exact h
  have ih:=CW x (b::t) h1
  show(ev (a::b::t) x::qu x (b::t)).getLast?=some 1
  have: ∀(z:Fin p)(w:List (Fin p)),Mon w→(z::w).getLast?=some 1:=by
   intro z w hw
   cases w with
   |nil=>simp[Mon]at hw
   |cons c w=>rw[gJ];exact hw
  exact this _ _ ih
theorem vW{a b:Fin p}{l:List (Fin p)}(h:Mon (a::b::l)):Mon (b::l):=by
 unfold Mon at h⊢
 rw[gJ]at h
 exact h
theorem ze(hp:gR p):(1:Fin p)≠0:=by
 rw[eD]
 show(1 % p)≠0
 rw[aM (by have:=hp.1;omega)]
 omega
theorem vX(hp:gR p): ∀(k:Nat)(l:List (Fin p)),l.length=k+1→Mon l→∀rs:List (Fin p),rs.Nodup→(∀x∈rs,ev l x=0)→rs.length≤k:=by
 intro k
 induction k with
 |zero=>
  intro l hl hm rs hn hz
  match l,hl with
  |[a],_=>
   have e:a=1:=by simpa[Mon]using hm
   subst e
   cases rs with
   |nil=>simp
   |cons x rs=>
    have:=hz x (by simp)
    simp only[fW,sO]at this
    exact absurd (show(1:Fin p)=0 by grind) (ze hp)
 |succ k ih=>
  intro l hl hm rs hn hz
  match l,hl with
  |a::b::l,hl=>
   cases rs with
   |nil=>simp
   |cons x rs=>
    rw[bV]at hn
    have h1:=ih (qu x (b::l)) (by rw[CV];simpa using hl) (CW x _ (vW hm)) rs hn.2 (fun y hy=>by
     have h2:=zu x y (b::l) a
     rw[hz y (by simp[hy]),hz x (by simp)]at h2
     have df:y-x≠0:=fun e=>hn.1 (Eq.subst (motive:=fun z=>z∈rs) (show y=x by grind) hy)
     apply ai
     intro h3
     exact mK hp df h3 (by grind))
    rw[aC]
    omega
def rC:List (Fin p)→List (Fin p)→List (Fin p)
 |[],l=>l
 |l,[]=>l
 |a::l,b::m=>(a+b)::rC l m
theorem Ei: ∀(l m:List (Fin p))(x:Fin p),ev (rC l m) x=ev l x+ev m x
 |[],l,x=>by rw[rC,sO];grind
 |a::l,[],x=>by rw[rC,sO];grind;intro h;cases h
 |a::l,b::m,x=>by
  rw[rC,fW,fW,fW,Ei l m x]
  grind
theorem vY(c:Fin p): ∀(l:List (Fin p))(x:Fin p),ev (l.map fun a=>c*a) x=c*ev l x
 |[],x=>by rw[List.map_nil,sO];grind
 |a::l,x=>by rw[List.map_cons,fW,fW,vY c l x];grind
theorem Ba: ∀(l m:List (Fin p)),(rC l m).length=max l.length m.length
 |[],l=>by simp[rC]
 |a::l,[]=>by simp[rC]
 |a::l,b::m=>by
  rw[rC,aC,aC,aC,Ba l m]
  omega
theorem Bb: ∀(l m:List (Fin p)),m.length<l.length→Mon l→Mon (rC l m)
 |[],m,h,_=>by simp at h
 |a::l,[],_,h=>by
  rw[rC]
  ·exact h
  ·intro e;cases e
 |[a],b::m,h,_=>by simp at h
 |a::c::l,b::m,h,hm=>by
  have ih:=Bb (c::l) m (by simpa using h) (vW hm)
  show((a+b)::rC (c::l) m).getLast?=some 1
  generalize rC (c::l) m=w at ih
  cases w with
  |nil=>simp[Mon]at ih
  |cons d w=>rw[gJ];exact ih
theorem vZ: ∀rs:List (Fin p),∃l:List (Fin p),l.length=rs.length+1∧Mon l∧∀x∈rs,ev l x=0
 |[]=>⟨[1],rfl,rfl,by simp⟩
 |r::rs=>by
  obtain⟨l,h1,h2,h3⟩:=vZ rs
  refine⟨rC (0::l) (l.map fun a=>(-r)*a),?_,?_,?_⟩
  ·rw[Ba,ae,aC,aC]
   omega
  ·apply Bb
   ·rw[ae,aC];omega
   ·cases l with
    |nil=>simp[Mon]at h2
    |cons a l=>unfold Mon;rw[gJ];exact h2
  ·intro x hx
   rw[Ei,vY,fW]
   rcases aH.1 hx with rfl|hx
   ·grind
   ·rw[h3 x hx];grind
theorem CY(x:Fin p): ∀(k:Nat)(f:Nat→Fin p),ev ((List.range k).map f) x=lsum (List.range k) (fun l=>f l*pw x l):=by
 intro k
 induction k with
 |zero=>intro f;rfl
 |succ k ih=>
  intro f
  rw[ej,a6,fW,aU,cz,iO]
  have:=ih (fun l=>f (l+1))
  rw[show(f∘Nat.succ)=(fun l=>f (l+1))from rfl,this,cG]
  have e:lsum (List.range k) (fun a=>f (a+1)*pw x a*x)=lsum (List.range k) (fun a=>f (Nat.succ a)*pw x (Nat.succ a)):=by
   apply bc
   intro a _
   rw[show pw x (Nat.succ a)=pw x (a+1)from rfl,gT]
   grind
  rw[e]
  have:pw x 0=1:=rfl
  rw[this]
  grind
end
end Ch
end
section
namespace Ch
open Lean.Grind (Semiring Ring CommRing CommSemiring)
section
variable{p:Nat} [NeZero p]{L:Nat}{A:Nat→Nat→Fin p}
def j8(L:Nat)(A:Nat→Nat→Fin p)(x:Nat→Fin p):Prop:=∀i,i<L→x i=lsum (List.range (L+1)) fun l=>x (L+l)*A l i
theorem j8.comb{x y:Nat→Fin p}(hx:j8 L A x)(hy:j8 L A y)(f:Fin p):j8 L A (fun i=>x i+f*y i):=by
 intro i hi
 show x i+f*y i=lsum (List.range (L+1)) (fun l=>(x (L+l)+f*y (L+l))*A l i)
 rw[hx i hi,hy i hi,bU,←qR]
 apply bc
 intro l _
 grind
theorem j8.scale{x:Nat→Fin p}(hx:j8 L A x)(f:Fin p):j8 L A (fun i=>x i*f):=by
 intro i hi
 show x i*f=lsum (List.range (L+1)) (fun l=>(x (L+l)*f)*A l i)
 rw[hx i hi,cG]
 apply bc
 intro l _
 grind
structure Og(L:Nat)(A:Nat→Nat→Fin p)(c:Nat→Nat→Fin p)(pv:Nat→Nat)(q:Nat):Prop where
 good: ∀j,j<q→j8 L A (c j)
 pl: ∀j,j<q→pv j<L
 one: ∀j,j<q→c j (pv j)=1
 zero: ∀j,j<q→∀j',j'<j→c j (pv j')=0
 lead: ∀j,j<q→c j (L+j)≠0
 LX: ∀j,j<q→∀l,j<l→l≤L→c j (L+l)=0
variable{c:Nat→Nat→Fin p}{pv:Nat→Nat}
theorem Og.less{q:Nat}(h:Og L A c pv (q+1)):Og L A c pv q:=
 ⟨fun j hj=>h.good j (by omega),fun j hj=>h.pl j (by omega),fun j hj=>h.one j (by omega),fun j hj=>h.zero j (by omega),fun j hj=>h.lead j (by omega),fun j hj=>h.LX j (by omega)⟩
theorem PN(hp:gR p): ∀(q:Nat),q≤L+1→Og L A c pv q→∀x:Nat→Fin p,j8 L A x→(∀l,q≤l→l≤L→x (L+l)=0)→(∀j,j<q→x (pv j)=0)→∀i,i<L→x i=0:=by
 intro q
 induction q with
 |zero=>
  intro _ _ x hx h0 _ i hi
  rw[hx i hi,←fo (R:=Fin p) (List.range (L+1))]
  apply bc
  intro l hl
  rw[aD]at hl
  rw[h0 l (bB _) (by omega)]
  grind
 |succ q ih=>
  intro hq hc x hx h0 hz i hi
  obtain⟨b,hb⟩:=mL hp _ (hc.lead q (by omega))
  have h1:=ih (by omega) hc.less (fun i=>x i+(-(x (L+q)*b))*c q i) (hx.comb (hc.good q (by omega)) _) (fun l h2 h3=>by
   show x (L+l)+(-(x (L+q)*b))*c q (L+l)=0
   by_cases hl:l=q
   ·subst hl;grind
   ·rw[h0 l (by omega) h3,hc.LX q (by omega) l (by omega) h3];grind) (fun j hj=>by
   show x (pv j)+(-(x (L+q)*b))*c q (pv j)=0
   rw[hz j (by omega),hc.zero q (by omega) j hj];grind)
  have h2:=h1 (pv q) (hc.pl q (by omega))
  have h3:=h1 i hi
  rw[hz q (by omega),hc.one q (by omega)]at h2
  have h4: -(x (L+q)*b)=0:=by grind
  rw[h4]at h3
  grind
def red(c:Nat→Nat→Fin p)(pv:Nat→Nat):Nat→(Nat→Fin p)→Nat→Fin p
 |0,x=>x
 |k+1,x=>fun i=>red c pv k x i+(-(red c pv k x (pv k)))*c k i
theorem Ir{q:Nat}(hc:Og L A c pv q){x:Nat→Fin p}(hx:j8 L A x): ∀k,k≤q→j8 L A (red c pv k x)∧(∀l,k≤l→l≤L→red c pv k x (L+l)=x (L+l))∧∀j,j<k→red c pv k x (pv j)=0:=by
 intro k
 induction k with
 |zero=>exact fun _=>⟨hx,fun _ _ _=>rfl,fun j hj=>absurd hj (cY _)⟩
 |succ k ih=>
  intro hk
  obtain⟨h1,h2,h3⟩:=ih (by omega)
  refine⟨h1.comb (hc.good k hk) _,fun l h4 h5=>?_,fun j hj=>?_⟩
  ·show red c pv k x (L+l)+(-(red c pv k x (pv k)))*c k (L+l)=_
   rw[h2 l (by omega) h5,hc.LX k hk l (by omega) h5]
   grind
  ·show red c pv k x (pv j)+(-(red c pv k x (pv k)))*c k (pv j)=0
   by_cases Cs:j=k
   ·subst Cs
    rw[hc.one j hk]
    grind
   ·rw[h3 j (by omega),hc.zero k hk j (by omega)]
    grind
end
section
variable(p:Nat) [NeZero p]
def fv{p:Nat} [NeZero p](row:List Int)(i:Nat):Fin p:=ic (row.getD i 0)
def pW(row:List Int):Prop:=∀x∈row,0≤x∧x<(p:Int)
def mulR(row:List Int)(f:Int):List Int:=row.map fun x=>x*f % (p:Int)
def lZ(row:List Int)(f:Int)(other:List Int):List Int:=List.zipWith (fun x y=>(x+f*y) % (p:Int)) row other
def qm(row other:List Int):Int:=(List.zipWith (fun x y=>x*y) row other).sum
def md(m:List (List Int))(row:List Int):List Int:=m.map fun e=>qm e row % (p:Int)
def gy(iQ:List Int)(x:Int):Int:=iQ.foldr (fun a v=>(v*x+a) % (p:Int)) 0
def l0(x:Int):List Int→List Int
 |[]=>[]
 |a::t=>gy p (a::t) x::l0 x t
def jU(iQ:List Int):List Nat:=(List.range p).filter fun x=>gy p iQ (x:Int)==0
def gW(a:Int):Int:=((pw (ic a:Fin p) (p-2)).val:Nat)
def ye(L:Nat)(r:List Int):Nat:=((List.range L).filter fun i=>r.getD i 0 !=0).headD 0
def marks(L k:Nat):List Int:=(List.replicate (L+1) 0).set k 1
def nW(L:Nat)(ch:List (List Int×Nat))(row:List Int):List Int:=ch.foldl (fun r cp=>lZ p r (-(r.getD cp.2 0)) cp.1) (row++marks L ch.length)
def PQ(L:Nat)(ch:List (List Int×Nat))(row:List Int):List Int×Nat:=
 (mulR p (nW p L ch row) (gW p ((nW p L ch row).getD (ye L (nW p L ch row)) 0)),ye L (nW p L ch row))
def kY(m:List (List Int))(row:List Int):Nat→List Int
 |0=>row
 |q+1=>md p m (kY m row q)
def chain(m:List (List Int))(row:List Int):Nat→List (List Int×Nat)
 |0=>[]
 |q+1=>chain m row q++[PQ p row.length (chain m row q) (kY p m row q)]
def ly(m:List (List Int))(row:List Int)(q:Nat):List Int×Nat:=PQ p row.length (chain p m row q) (kY p m row q)
def j9(m:List (List Int))(row:List Int)(q:Nat):List Int:=nW p row.length (chain p m row q) (kY p m row q)
def zw(start:List Int)(os:List Int)(lP:List (List Int)):List Int:=(os.zip lP).foldl (fun part fi=>lZ p part fi.1 fi.2) start
def Iu(lP:List (List Int))(iQ:List Int)(z:Int)(L:Nat):List Int:=
 mulR p (zw p (List.replicate L 0) (l0 p z iQ.tail) lP) (gW p (gy p (l0 p z iQ.tail) z))
end
section
variable{p:Nat} [NeZero p]
theorem pW.at_{row:List Int}(h:pW p row)(i:Nat):0≤row.getD i 0∧row.getD i 0<(p:Int):=by
 rw[af]
 cases e:row[i]? with
 |none=>exact⟨kr 0,by have:=p_pos (p:=p);show(0:Int)<p;omega⟩
 |some x=>exact h x (aL e)
theorem PR{a b:List Int}(ha:pW p a)(hb:pW p b)(hl:a.length=b.length)(h: ∀i,i<a.length→(fv a i:Fin p)=fv b i):a=b:=by
 apply bO hl
 intro i h1 h2
 have e:=h i h1
 unfold fv at e
 have:=vV (ha.at_ i).1 (ha.at_ i).2 (hb.at_ i).1 (hb.at_ i).2 e
 rw[af,af,aj h1,aj h2]at this
 exact this
theorem fM(a:Int):0≤a % (p:Int)∧a % (p:Int)<p:=by
 have h0:(0:Int)<(p:Int):=by have:=p_pos (p:=p);omega
 exact⟨Int.emod_nonneg a (by omega),Int.emod_lt_of_pos a h0⟩
theorem oN(row:List Int)(f:Int):pW p (mulR p row f):=by
 intro x hx
 obtain⟨y,_,rfl⟩:=ay.1 hx
 exact fM _
theorem zx: ∀(row:List Int)(f:Int)(other:List Int),pW p (lZ p row f other)
 |[],_,_=>by intro x hx;simp[lZ]at hx
 |_::_,_,[]=>by intro x hx;simp[lZ]at hx
 |a::r,f,b::o=>by
  intro x hx
  rw[lZ,List.zipWith_cons_cons]at hx
  rcases aH.1 hx with rfl|hx
  ·exact fM _
  ·exact zx r f o x hx
theorem Iv(m:List (List Int))(row:List Int):pW p (md p m row):=by
 intro x hx
 obtain⟨y,_,rfl⟩:=ay.1 hx
 exact fM _
theorem oO(row:List Int)(f:Int):(mulR p row f).length=row.length:=by simp[mulR]
theorem Ej(row:List Int)(f:Int)(other:List Int):(lZ p row f other).length=min row.length other.length:=by simp[lZ]
theorem Iw(m:List (List Int))(row:List Int):(md p m row).length=m.length:=by simp[md]
theorem uI(row:List Int)(f:Int)(i:Nat):(fv (mulR p row f) i:Fin p)=fv row i*ic f:=by
 unfold fv mulR
 rw[af,af,ag]
 cases row[i]? with
 |none=>show ic 0=ic 0*ic f;rw[g7];grind
 |some x=>show ic (x*f % (p:Int))=ic x*ic f;rw[mV,sN]
theorem Iy{row other:List Int}(hl:row.length=other.length)(f:Int)(i:Nat):(fv (lZ p row f other) i:Fin p)=fv row i+ic f*fv other i:=by
 unfold fv lZ
 rw[af,af,af,xq]
 by_cases hi:i<row.length
 ·rw[aj hi,aj (by omega)]
  show ic ((row[i]+f*other[i]) % (p:Int))=ic row[i]+ic f*ic other[i]
  rw[mV,zt,sN]
 ·rw[cN (by omega),cN (by omega)]
  show ic 0=ic 0+ic f*ic 0
  rw[g7];grind
theorem Ek: ∀(row other:List Int),row.length=other.length→(ic (qm row other):Fin p)=lsum (List.range row.length) (fun j=>fv row j*fv other j)
 |[],_,_=>by
  show ic (List.zipWith _ [] _).sum=_
  rw[List.zipWith_nil_left]
  exact g7
 |a::r,[],h=>by simp at h
 |a::r,b::o,h=>by
  rw[qm,List.zipWith_cons_cons,mJ,zt,sN]
  have ih:=Ek r o (by simpa using h)
  rw[qm]at ih
  rw[ih,aC,ej,cz,iO]
  rfl
theorem zy{L:Nat}{m:List (List Int)}{row:List Int}(hm:m.length=L)(hr: ∀r∈m,r.length=L)(hl:row.length=L){i:Nat}(hi:i<L):
  (fv (md p m row) i:Fin p)=lsum (List.range L) (fun j=>fv (m.getD i []) j*fv row j):=by
 unfold md
 have h1:m[i]? =some (m.getD i []):=by
  rw[af,aj (by omega)]
  rfl
 show ic ((m.map fun e=>qm e row % (p:Int)).getD i 0)=_
 rw[af,ag,h1]
 show ic (qm (m.getD i []) row % (p:Int))=_
 have h2:(m.getD i []).length=L:=hr _ (aL h1)
 rw[mV,Ek _ _ (by rw[h2,hl]),h2]
theorem sP(hp:gR p){a:Int}(ha:(ic a:Fin p)≠0):(ic a:Fin p)*ic (gW p a)=1:=by
 unfold gW
 rw[CU]
 have hA:(nc p:Fin p)=0:=LL
 have h1:pw (ic a:Fin p) p=ic a:=by
  have:=D8 (A:=Fin p) hp hA (ic a)
  unfold io at this
  rw[gO]at this
  exact this
 have h2:p=(p-2)+2:=by have:=hp.1;omega
 have h3:pw (ic a:Fin p) p=ic a*ic a*pw (ic a) (p-2):=by
  have h4:pw (ic a:Fin p) p=pw (ic a) ((p-2)+2):=ba (pw (ic a:Fin p)) h2
  rw[h4,lL]
  have:pw (ic a:Fin p) 2=ic a*ic a:=by
   show ic a*(ic a*1)=_
   grind
  rw[this]
  grind
 apply dH hp ha
 rw[←aa,←h3,h1]
 grind
theorem Bc(a:Int):0≤gW p a∧gW p a<p:=by
 unfold gW
 have:=(pw (ic a:Fin p) (p-2)).isLt
 omega
theorem v8: ∀(iQ:List Int)(x:Int),0≤gy p iQ x∧gy p iQ x<p
 |[],x=>by have:=p_pos (p:=p);exact⟨kr 0,by show(0:Int)<p;omega⟩
 |a::l,x=>fM _
theorem uJ: ∀(iQ:List Int)(x:Int),(ic (gy p iQ x):Fin p)=ev (iQ.map ic) (ic x)
 |[],x=>g7
 |a::l,x=>by
  show ic ((gy p l x*x+a) % (p:Int))=_
  rw[mV,zt,sN,uJ l x,a6,fW]
theorem zA(x:Int): ∀(l:List Int),(l0 p x l).map (ic:Int→Fin p)=qu (ic x) (l.map ic)
 |[]=>rfl
 |a::t=>by
  rw[l0,a6,uJ,zA x t,a6,qu]
theorem uK(x:Int): ∀(l:List Int),(l0 p x l).length=l.length
 |[]=>rfl
 |a::t=>by rw[l0,aC,aC,uK x t]
end
end Ch
end
section
namespace Ch
open Lean.Grind (Semiring Ring CommRing CommSemiring)
section
variable{p:Nat} [NeZero p]{L:Nat}{m:List (List Int)}{row:List Int}{la:List Nat}{v:Nat→List Int}
structure L3(p L:Nat) [NeZero p](m:List (List Int))(row:List Int)(la:List Nat)(v:Nat→List Int):Prop where
 L4:m.length=L
 PU: ∀r∈m,r.length=L
 CZ:row.length=L
 Xf:pW p row
 Tg: ∀t∈la,(v t).length=L
 Xg: ∀t∈la,pW p (v t)
 sum: ∀i,i<L→(fv row i:Fin p)=lsum la (fun t=>fv (v t) i)
 Xh: ∀t∈la,∀i,i<L→(fv (md p m (v t)) i:Fin p)=nc t*fv (v t) i
 ind: ∀f:Nat→Fin p,(∀i,i<L→lsum la (fun t=>f t*fv (v t) i)=0)→∀t∈la,f t=0
 lt: ∀t∈la,t<p
 sorted:la.Pairwise (·<·)
 le:la.length≤L
theorem nX{f:Nat→Fin p}: ∀(n k:Nat),k≤n→(∀l,k≤l→l<n→f l=0)→lsum (List.range n) f=lsum (List.range k) f:=by
 intro n
 induction n with
 |zero=>intro k hk _;rw[show k=0 by omega]
 |succ n ih=>
  intro k hk h
  by_cases e:k=n+1
  ·subst e;rfl
  ·rw[cQ,oA,ih k (by omega) (fun l h1 h2=>h l h1 (by omega)),cz,fL,h n (by omega) (by omega)]
   grind
theorem rD(m:List (List Int))(row:List Int): ∀q,chain p m row q=(List.range q).map (ly p m row)
 |0=>rfl
 |q+1=>by
  rw[chain,cQ,bo,←rD m row q]
  rfl
theorem F3(m:List (List Int))(row:List Int)(q:Nat):(chain p m row q).length=q:=by rw[rD];simp
theorem sQ(L k:Nat):(marks L k).length=L+1:=by simp[marks]
theorem Bd(L k:Nat)(hk:k≤L)(l:Nat):(fv (marks L k) l:Fin p)=if l=k then 1 else 0:=by
 unfold fv marks
 rw[af,List.getElem?_set]
 by_cases e:k=l
 ·subst e
  rw[aO rfl,aO (by simp;omega),aO rfl]
  exact Ip
 ·rw[aI e,aI (fun h=>e h.symm),d5]
  split
  ·exact g7
  ·exact g7
theorem F4(hp:gR p)(L k:Nat):pW p (marks L k):=by
 intro x hx
 rcases List.mem_or_eq_of_mem_set hx with h|h
 ·rw[List.mem_replicate]at h
  rw[h.2]
  exact⟨kr 0,by have:=hp.1;omega⟩
 ·subst h
  exact⟨by decide,by have:=hp.1;omega⟩
theorem v9(a b:List Int){i:Nat}(h:i<a.length):(fv (a++b) i:Fin p)=fv a i:=by
 unfold fv
 rw[af,dE h,←af]
theorem nY(a b:List Int)(l:Nat):(fv (a++b) (a.length+l):Fin p)=fv b l:=by
 unfold fv
 rw[af,jb (by omega),Nat.add_sub_cancel_left,←af]
theorem Iz{N:Nat}(E:Nat→List Int×Nat)(x0:List Int)(h0:x0.length=N)(FR:pW p x0): ∀k,(∀j,j<k→(E j).1.length=N)→
  (((List.range k).map E).foldl (fun r cp=>lZ p r (-(r.getD cp.2 0)) cp.1) x0).length=N∧pW p (((List.range k).map E).foldl (fun r cp=>lZ p r (-(r.getD cp.2 0)) cp.1) x0)∧
  ∀i,(fv (((List.range k).map E).foldl (fun r cp=>lZ p r (-(r.getD cp.2 0)) cp.1) x0) i:Fin p)=red (fun j=>fv (E j).1) (fun j=>(E j).2) k (fv x0) i:=by
 intro k
 induction k with
 |zero=>exact fun _=>⟨h0,FR,fun i=>rfl⟩
 |succ k ih=>
  intro hE
  obtain⟨h1,h2,h3⟩:=ih (fun j hj=>hE j (by omega))
  rw[cQ,bo,iL]
  generalize ((List.range k).map E).foldl (fun r cp=>lZ p r (-(r.getD cp.2 0)) cp.1) x0=r at h1 h2 h3
  show(lZ p r (-(r.getD (E k).2 0)) (E k).1).length=N∧pW p (lZ p r (-(r.getD (E k).2 0)) (E k).1)∧∀i,(fv (lZ p r (-(r.getD (E k).2 0)) (E k).1) i:Fin p)=_
  have hEk:=hE k (by omega)
  refine⟨by rw[Ej,h1,hEk,Nat.min_self],zx _ _ _,fun i=>?_⟩
  rw[Iy (by rw[h1,hEk]),PM,h3 i]
  show _+ -(fv r (E k).2)*_=_
  rw[h3]
  rfl
theorem Be{L:Nat}{r:List Int}(h: ∃i,i<L∧r.getD i 0≠0):ye L r<L∧r.getD (ye L r) 0≠0:=by
 obtain⟨i,hi,hn⟩:=h
 unfold ye
 have hm:i∈(List.range L).filter fun i=>r.getD i 0 !=0:=by
  rw[bg,aD]
  exact⟨hi,by simpa using hn⟩
 cases e:(List.range L).filter fun i=>r.getD i 0 !=0 with
 |nil=>rw[e]at hm;cases hm
 |cons a l=>
  have ha:a∈(List.range L).filter fun i=>r.getD i 0 !=0:=by rw[e];simp
  rw[bg,aD]at ha
  exact⟨ha.1,by simpa using ha.2⟩
section
variable(hp:gR p)(E:L3 p L m row la v)
include E
theorem qo: ∀q,(kY p m row q).length=L
 |0=>E.CZ
 |q+1=>by rw[kY,Iw,E.L4]
theorem IA: ∀q,pW p (kY p m row q)
 |0=>E.Xf
 |q+1=>Iv _ _
theorem IB(q:Nat): ∀i,i<L→(fv (kY p m row q) i:Fin p)=lsum la (fun t=>pw (nc t) q*fv (v t) i):=by
 induction q with
 |zero=>
  intro i hi
  show(fv row i:Fin p)=_
  rw[E.sum i hi]
  apply bc
  intro t _
  show _=(1:Fin p)*_
  grind
 |succ q ih=>
  intro i hi
  rw[kY,zy E.L4 E.PU (qo E q) hi]
  have h1:lsum (List.range L) (fun j=>(fv (m.getD i []) j:Fin p)*fv (kY p m row q) j)=lsum (List.range L) (fun j=>lsum la (fun t=>fv (m.getD i []) j*(pw (nc t) q*fv (v t) j))):=by
   apply bc
   intro j hj
   rw[aD]at hj
   rw[ih j hj,bU]
  rw[h1,jf]
  apply bc
  intro t ht
  have h2:=E.Xh t ht i hi
  rw[zy E.L4 E.PU (E.Tg t ht) hi]at h2
  have h3:lsum (List.range L) (fun j=>(fv (m.getD i []) j:Fin p)*(pw (nc t) q*fv (v t) j))=pw (nc t) q*lsum (List.range L) (fun j=>fv (m.getD i []) j*fv (v t) j):=by
   rw[bU]
   apply bc
   intro j _
   grind
  rw[h3,h2,gT]
  grind
theorem El{q:Nat}(hq:q≤L){x:Nat→Fin p}(hx:j8 L (fun l i=>fv (kY p m row l) i) x)(hd: ∀l,q<l→l≤L→x (L+l)=0){i:Nat}(hi:i<L):
  x i=lsum la (fun t=>ev ((List.range (q+1)).map fun l=>x (L+l)) (nc t)*fv (v t) i):=by
 rw[hx i hi,nX (L+1) (q+1) (by omega) (fun l h1 h2=>by rw[hd l (by omega) (by omega)];grind)]
 have h1:lsum (List.range (q+1)) (fun l=>x (L+l)*fv (kY p m row l) i)=lsum (List.range (q+1)) (fun l=>lsum la (fun t=>x (L+l)*(pw (nc t) l*fv (v t) i))):=by
  apply bc
  intro l _
  rw[IB E l i hi,bU]
 rw[h1,jf]
 apply bc
 intro t _
 rw[CY,cG]
 apply bc
 intro l _
 grind
theorem ql(q:Nat)(hq:q≤L):j8 L (fun l i=>fv (kY p m row l) i) (fv (kY p m row q++marks L q):Nat→Fin p):=by
 intro i hi
 have hl:=qo E q
 have h1: ∀l,(fv (kY p m row q++marks L q) (L+l):Fin p)=if l=q then 1 else 0:=by
  intro l
  rw[←Bd L q hq l]
  have h2:=nY (p:=p) (kY p m row q) (marks L q) l
  rw[hl]at h2
  exact h2
 rw[v9 _ _ (by rw[hl];exact hi),fA List.nodup_range (a:=q) (by rw[List.mem_range];omega) _ (fun b _ hb=>by rw[h1,if_neg hb];grind),h1,if_pos rfl]
 grind
include hp
theorem iC{q:Nat}(hq:q≤L)(hc:Og L (fun l i=>fv (kY p m row l) i) (fun j=>(fv (ly p m row j).1:Nat→Fin p)) (fun j=>(ly p m row j).2) q)(hl: ∀j,j<q→(ly p m row j).1.length=2*L+1):
  (j9 p m row q).length=2*L+1∧pW p (j9 p m row q)∧j8 L (fun l i=>fv (kY p m row l) i) (fv (j9 p m row q):Nat→Fin p)∧(fv (j9 p m row q) (L+q):Fin p)=1∧
  (∀l,q<l→l≤L→(fv (j9 p m row q) (L+l):Fin p)=0)∧∀j,j<q→(fv (j9 p m row q) (ly p m row j).2:Fin p)=0:=by
 have xN:=qo E q
 have h0:(kY p m row q++marks L q).length=2*L+1:=by rw[bC,xN,sQ];omega
 have FR:pW p (kY p m row q++marks L q):=by
  intro x hx
  rcases bP.1 hx with h|h
  ·exact IA E q x h
  ·exact F4 hp L q x h
 have hre:j9 p m row q=((List.range q).map (ly p m row)).foldl (fun r cp=>lZ p r (-(r.getD cp.2 0)) cp.1) (kY p m row q++marks L q):=by
  unfold j9 nW
  rw[F3,rD,E.CZ]
 obtain⟨h1,h2,h3⟩:=Iz (ly p m row) _ h0 FR q hl
 rw[←hre]at h1 h2 h3
 have Xi:(fv (j9 p m row q):Nat→Fin p)=red (fun j=>fv (ly p m row j).1) (fun j=>(ly p m row j).2) q (fv (kY p m row q++marks L q)):=funext h3
 obtain⟨g1,g2,g3⟩:=Ir hc (ql E q hq) q (aq q)
 rw[←Xi]at g1 g2 g3
 have hmk: ∀l,(fv (kY p m row q++marks L q) (L+l):Fin p)=if l=q then 1 else 0:=by
  intro l
  rw[←Bd L q hq l]
  have h4:=nY (p:=p) (kY p m row q) (marks L q) l
  rw[xN]at h4
  exact h4
 refine⟨h1,h2,g1,?_,?_,g3⟩
 ·rw[g2 q (aq q) hq,hmk,aO rfl]
 ·intro l h4 h5
  rw[g2 l (by omega) h5,hmk,aI (by omega)]
def ka(p:Nat) [NeZero p](m:List (List Int))(row:List Int)(L q:Nat):List (Fin p):=(List.range (q+1)).map fun l=>fv (j9 p m row q) (L+l)
theorem sR(q:Nat):(ka p m row L q).length=q+1:=by simp[ka]
theorem yf{q:Nat}(h:(fv (j9 p m row q) (L+q):Fin p)=1):Mon (ka p m row L q):=by
 unfold Mon ka
 rw[cQ,bo]
 simp[h]
theorem wa:(la.map (nc:Nat→Fin p)).Nodup:=by
 apply cR (E.sorted.imp (fun h=>br h))
 intro a ha b hb e
 have h1:=ba Fin.val e
 rw[eH,eH,aM (E.lt a ha),aM (E.lt b hb)]at h1
 exact h1
theorem Bf{q:Nat}(hq:q<la.length)(hc:Og L (fun l i=>fv (kY p m row l) i) (fun j=>(fv (ly p m row j).1:Nat→Fin p)) (fun j=>(ly p m row j).2) q)(hl: ∀j,j<q→(ly p m row j).1.length=2*L+1):
  ∃i,i<L∧(j9 p m row q).getD i 0≠0:=by
 have R0:q≤L:=by have:=E.le;omega
 obtain⟨h1,h2,g,h3,h4,h5⟩:=iC hp E R0 hc hl
 apply ai
 intro kd
 have hz: ∀t∈la,ev (ka p m row L q) (nc t)=0:=E.ind (fun t=>ev (ka p m row L q) (nc t)) (fun i hi=>by
  have h6:=El E R0 g h4 hi
  show lsum la (fun t=>ev ((List.range (q+1)).map fun l=>fv (j9 p m row q) (L+l)) (nc t)*fv (v t) i)=0
  rw[←h6]
  have h7:(j9 p m row q).getD i 0=0:=ai fun h=>kd ⟨i,hi,h⟩
  unfold fv
  rw[h7,g7])
 have h6:=vX hp q (ka p m row L q) (sR hp E q) (yf hp E h3) (la.map nc) (wa hp E) (fun x hx=>by
  obtain⟨t,ht,rfl⟩:=ay.1 hx
  exact hz t ht)
 rw[ae]at h6
 omega
theorem kD: ∀q,q≤la.length→Og L (fun l i=>fv (kY p m row l) i) (fun j=>(fv (ly p m row j).1:Nat→Fin p)) (fun j=>(ly p m row j).2) q∧∀j,j<q→(ly p m row j).1.length=2*L+1:=by
 intro q
 induction q with
 |zero=>exact fun _=>⟨⟨fun j hj=>absurd hj (cY _),fun j hj=>absurd hj (cY _),fun j hj=>absurd hj (cY _),fun j hj=>absurd hj (cY _),fun j hj=>absurd hj (cY _),fun j hj=>absurd hj (cY _)⟩,fun j hj=>absurd hj (cY _)⟩
 |succ q ih=>
  intro hq
  obtain⟨hc,hl⟩:=ih (by omega)
  have R0:q≤L:=by have:=E.le;omega
  obtain⟨h1,h2,g,h3,h4,h5⟩:=iC hp E R0 hc hl
  obtain⟨f1,f2⟩:=Be (Bf hp E (by omega) hc hl)
  have e2:(ly p m row q).2=ye L (j9 p m row q):=by
   unfold ly PQ
   rw[E.CZ]
   unfold j9
   rw[E.CZ]
  have e1:(ly p m row q).1=mulR p (j9 p m row q) (gW p ((j9 p m row q).getD (ye L (j9 p m row q)) 0)):=by
   unfold ly PQ
   rw[E.CZ]
   unfold j9
   rw[E.CZ]
  have df:(ic ((j9 p m row q).getD (ye L (j9 p m row q)) 0):Fin p)≠0:=by
   intro h
   exact f2 ((mW (h2.at_ _).1 (h2.at_ _).2).1 h)
  have hinv:=sP hp df
  have PV:(fv (ly p m row q).1:Nat→Fin p)=fun i=>fv (j9 p m row q) i*ic (gW p ((j9 p m row q).getD (ye L (j9 p m row q)) 0)):=by
   funext i
   rw[e1,uI]
  generalize (ic (gW p ((j9 p m row q).getD (ye L (j9 p m row q)) 0)):Fin p)=u at hinv PV
  refine⟨⟨?_,?_,?_,?_,?_,?_⟩,?_⟩
  ·intro j hj
   by_cases e:j=q
   ·subst e
    show j8 L _ (fv (ly p m row j).1:Nat→Fin p)
    rw[PV]
    exact g.scale u
   ·exact hc.good j (by omega)
  ·intro j hj
   by_cases e:j=q
   ·subst e;show(ly p m row j).2<L;rw[e2];exact f1
   ·exact hc.pl j (by omega)
  ·intro j hj
   by_cases e:j=q
   ·subst e;show(fv (ly p m row j).1 (ly p m row j).2:Fin p)=1;rw[PV,e2];exact hinv
   ·exact hc.one j (by omega)
  ·intro j hj j' L1
   by_cases e:j=q
   ·subst e
    show(fv (ly p m row j).1 (ly p m row j').2:Fin p)=0
    rw[PV]
    show(fv (j9 p m row j) (ly p m row j').2:Fin p)*u=0
    rw[h5 j' L1]
    grind
   ·exact hc.zero j (by omega) j' L1
  ·intro j hj
   by_cases e:j=q
   ·subst e
    show(fv (ly p m row j).1 (L+j):Fin p)≠0
    rw[PV]
    show(fv (j9 p m row j) (L+j):Fin p)*u≠0
    rw[h3]
    intro h6
    apply ze hp
    rw[←hinv]
    grind
   ·exact hc.lead j (by omega)
  ·intro j hj l h6 h7
   by_cases e:j=q
   ·subst e
    show(fv (ly p m row j).1 (L+l):Fin p)=0
    rw[PV]
    show(fv (j9 p m row j) (L+l):Fin p)*u=0
    rw[h4 l h6 h7]
    grind
   ·exact hc.LX j (by omega) l h6 h7
  ·intro j hj
   by_cases e:j=q
   ·subst e;rw[e1,oO,h1]
   ·exact hl j (by omega)
theorem Bg: ∀i,i<L→(j9 p m row la.length).getD i 0=0:=by
 obtain⟨hc,hl⟩:=kD hp E la.length (aq _)
 obtain⟨h1,h2,g,h3,h4,h5⟩:=iC hp E E.le hc hl
 obtain⟨pi,p1,p2,p3⟩:=vZ (la.map (nc:Nat→Fin p))
 rw[ae]at p1
 let z:Nat→Fin p:=fun i=>if i<L then 0 else pi.getD (i-L) 0
 have Xj: ∀l,z (L+l)=pi.getD l 0:=by
  intro l
  show(if L+l<L then(0:Fin p)else pi.getD (L+l-L) 0)=_
  rw[aI (by omega),Nat.add_sub_cancel_left]
 have PX:(List.range (la.length+1)).map (fun l=>z (L+l))=pi:=by
  apply bO (by simp[p1])
  intro i g1 g2
  rw[bY,cM,Xj,af,aj g2]
  rfl
 have hzd: ∀l,la.length<l→l≤L→z (L+l)=0:=by
  intro l g1 _
  rw[Xj,af,cN (by omega)]
  rfl
 have hzg:j8 L (fun l i=>fv (kY p m row l) i) z:=by
  intro i hi
  have e0:z i=0:=by show(if i<L then(0:Fin p)else _)=0;rw[aO hi]
  rw[e0,nX (L+1) (la.length+1) (by have:=E.le;omega) (fun l g1 g2=>by rw[hzd l (by omega) (by omega)];grind)]
  have e1:lsum (List.range (la.length+1)) (fun l=>z (L+l)*fv (kY p m row l) i)=lsum (List.range (la.length+1)) (fun l=>lsum la (fun t=>z (L+l)*(pw (nc t) l*fv (v t) i))):=by
   apply bc
   intro l _
   rw[IB E l i hi,bU]
  rw[e1,jf,←fo (R:=Fin p) la]
  apply bc
  intro t ht
  have e2:=p3 (nc t) (List.mem_map_of_mem ht)
  rw[←PX,CY]at e2
  have e3:lsum (List.range (la.length+1)) (fun l=>z (L+l)*(pw (nc t) l*fv (v t) i))=lsum (List.range (la.length+1)) (fun l=>z (L+l)*pw (nc t) l)*fv (v t) i:=by
   rw[cG]
   apply bc
   intro l _
   grind
  rw[e3,e2]
  grind
 have Th:z (L+la.length)=1:=by
  rw[Xj,af]
  unfold Mon at p2
  rw[List.getLast?_eq_getElem?,p1]at p2
  rw[show la.length+1-1=la.length by omega]at p2
  rw[p2]
  rfl
 have hv:=PN hp la.length (by have:=E.le;omega) hc (fun i=>fv (j9 p m row la.length) i+(-1)*z i) (g.comb hzg (-1)) (fun l g1 g2=>by
  show(fv (j9 p m row la.length) (L+l):Fin p)+(-1)*z (L+l)=0
  by_cases e:l=la.length
  ·subst e;rw[h3,Th];grind
  ·rw[h4 l (by omega) g2,hzd l (by omega) g2];grind) (fun j hj=>by
  show(fv (j9 p m row la.length) (ly p m row j).2:Fin p)+(-1)*z (ly p m row j).2=0
  have e0:z (ly p m row j).2=0:=by
   show(if(ly p m row j).2<L then(0:Fin p)else _)=0
   rw[aO (hc.pl j hj)]
  rw[h5 j hj,e0]
  grind)
 intro i hi
 have e1:(fv (j9 p m row la.length) i:Fin p)+(-1)*z i=0:=hv i hi
 have e0:z i=0:=by show(if i<L then(0:Fin p)else _)=0;rw[aO hi]
 rw[e0]at e1
 apply(mW (h2.at_ i).1 (h2.at_ i).2).1
 show(fv (j9 p m row la.length) i:Fin p)=0
 grind
end
end
end Ch
end
section
namespace Ch
open Lean.Grind (Semiring Ring CommRing CommSemiring)
theorem yg{l m:List Nat}(hl:l.Pairwise (·<·))(hm:m.Pairwise (·<·))(h: ∀x,x∈l↔x∈m):l=m:=by
 have hp:l.Perm m:=cX (hl.imp (fun h=>br h)) (hm.imp (fun h=>br h)) h
 exact List.Perm.eq_of_pairwise (fun a b _ _ h1 h2=>by omega) hl hm hp
section
variable{p:Nat} [NeZero p]{L:Nat}{m:List (List Int)}{row:List Int}{la:List Nat}{v:Nat→List Int}
theorem yh: ∀(os:List Int)(lP:List (List Int))(start:List Int),os.length=lP.length→start.length=L→(∀r∈lP,r.length=L)→
  (zw p start os lP).length=L∧∀i,(fv (zw p start os lP) i:Fin p)=fv start i+lsum (List.range os.length) (fun l=>ic (os.getD l 0)*fv (lP.getD l []) i)
 |[],lP,start,h,hs,hi=>by
  refine⟨by simpa[zw]using hs,fun i=>?_⟩
  show fv start i=fv start i+0
  grind
 |o::os,[],start,h,hs,hi=>by simp at h
 |o::os,im::yi,start,h,hs,hi=>by
  have hl:start.length=im.length:=by rw[hs,hi im (by simp)]
  obtain⟨h1,h2⟩:=yh os yi (lZ p start o im) (by simpa using h) (by rw[Ej,←hl,hs,Nat.min_self]) (fun r hr=>hi r (by simp[hr]))
  refine⟨h1,fun i=>?_⟩
  show fv (zw p (lZ p start o im) os yi) i=_
  rw[h2 i,Iy hl,aC,ej,cz,iO]
  show _=fv start i+(ic o*fv im i+lsum (List.range os.length) (fun l=>ic (os.getD l 0)*fv (yi.getD l []) i))
  grind
def sS(p:Nat) [NeZero p](m:List (List Int))(row:List Int)(L q:Nat):List Int:=((j9 p m row q).drop L).take (q+1)
variable(hp:gR p)(E:L3 p L m row la v)
include hp E
theorem zB:(sS p m row L la.length).length=la.length+1:=by
 obtain⟨hc,hl⟩:=kD hp E la.length (aq _)
 obtain⟨h1,_⟩:=iC hp E E.le hc hl
 have:=E.le
 rw[sS,cT,eF,h1]
 omega
theorem Em:(sS p m row L la.length).map ic=ka p m row L la.length:=by
 have h0:=zB hp E
 have hre:(j9 p m row la.length).length=2*L+1:=by
  obtain⟨hc,hl⟩:=kD hp E la.length (aq _)
  exact(iC hp E E.le hc hl).1
 apply bO (by rw[ae,h0,sR hp E])
 intro i h1 h2
 rw[ae,h0]at h1
 have hL:=E.le
 simp only[sS,ka,bY,List.getElem_take,qO,cM,fv]
 rw[af,aj (by omega)]
 rfl
theorem rE{t:Nat}(ht:t∈la):ev (ka p m row L la.length) (nc t)=0:=by
 obtain⟨hc,hl⟩:=kD hp E la.length (aq _)
 obtain⟨h1,h2,g,h3,h4,h5⟩:=iC hp E E.le hc hl
 refine E.ind (fun t=>ev (ka p m row L la.length) (nc t)) (fun i hi=>?_) t ht
 have h6:=El E E.le g h4 hi
 show lsum la (fun t=>ev ((List.range (la.length+1)).map fun l=>fv (j9 p m row la.length) (L+l)) (nc t)*fv (v t) i)=0
 rw[←h6]
 unfold fv
 rw[Bg hp E i hi,g7]
theorem En:Mon (ka p m row L la.length):=by
 obtain⟨hc,hl⟩:=kD hp E la.length (aq _)
 exact yf hp E (iC hp E E.le hc hl).2.2.2.1
theorem IC{x:Fin p}(hx:ev (ka p m row L la.length) x=0):x∈la.map (nc:Nat→Fin p):=by
 apply ai
 intro kd
 have:=vX hp la.length (ka p m row L la.length) (sR hp E _) (En hp E) (x::la.map nc) (bV.2 ⟨kd,wa hp E⟩) (fun y hy=>by
  rcases aH.1 hy with rfl|hy
  ·exact hx
  ·obtain⟨t,ht,rfl⟩:=ay.1 hy
   exact rE hp E ht)
 rw[aC,ae]at this
 omega
theorem ID:jU p (sS p m row L la.length)=la:=by
 apply yg
 ·exact nF _ gY
 ·exact E.sorted
 ·intro x
  rw[jU,bg,aD]
  have h1: ∀x:Nat,(gy p (sS p m row L la.length) (x:Int)==0)=true↔ev (ka p m row L la.length) (nc x)=0:=by
   intro x
   rw[cV,←Em hp E,←kC,←uJ,mW (v8 _ _).1 (v8 _ _).2]
  rw[h1]
  constructor
  ·rintro⟨h2,h3⟩
   obtain⟨t,ht,e⟩:=ay.1 (IC hp E h3)
   have h4:=ba Fin.val e
   rw[eH,eH,aM (E.lt t ht),aM h2]at h4
   rw[←h4]
   exact ht
  ·intro h2
   exact⟨E.lt x h2,rE hp E h2⟩
theorem L5{t:Nat}(ht:t∈la):(zw p (List.replicate L 0) (l0 p (t:Int) (sS p m row L la.length).tail) ((List.range la.length).map (kY p m row))).length=L∧
  Iu p ((List.range la.length).map (kY p m row)) (sS p m row L la.length) (t:Int) L=v t:=by
 have kZ:=zB hp E
 have IE:=Em hp E
 have rB:0<la.length:=dA ht
 generalize acd:sS p m row L la.length=rel at kZ IE⊢
 match rel,kZ with
 |a::r,kZ=>
  have hr:r.length=la.length:=by simpa using kZ
  have VU:ka p m row L la.length=ic a::r.map ic:=by rw[←IE];rfl
  obtain⟨h1,h2⟩:=yh (p:=p) (L:=L) (l0 p (t:Int) r) ((List.range la.length).map (kY p m row)) (List.replicate L 0) (by rw[uK,hr];simp) (by simp) (fun x hx=>by
   obtain⟨q,_,rfl⟩:=ay.1 hx
   exact qo E q)
  refine⟨h1,?_⟩
  have hQ: ∀s∈la,s≠t→ev (qu (ic (t:Int)) (r.map ic)) (nc s:Fin p)=0:=by
   intro s hs df
   have h3:=zu (ic (t:Int):Fin p) (nc s) (r.map ic) (ic a)
   rw[←VU,rE hp E hs,kC,rE hp E ht]at h3
   have Ti:(nc s:Fin p)-nc t≠0:=by
    intro e
    have e2:(nc s:Fin p)=nc t:=by grind
    have h4:=ba Fin.val e2
    rw[eH,eH,aM (E.lt t ht),aM (E.lt s hs)]at h4
    exact df h4
   rw[kC]
   apply ai
   intro h4
   exact mK hp Ti h4 (by grind)
  have hQt:ev (qu (ic (t:Int)) (r.map ic)) (nc t:Fin p)≠0:=by
   intro h3
   have Xk:Mon (qu (ic (t:Int):Fin p) (r.map ic)):=by
    apply CW
    have h4:=En hp E
    rw[VU]at h4
    cases r with
    |nil=>simp at hr;omega
    |cons b r=>exact vW h4
   have:=vX hp (la.length-1) (qu (ic (t:Int)) (r.map ic)) (by rw[CV,ae,hr];omega) Xk (la.map nc) (wa hp E) (fun x hx=>by
    obtain⟨s,hs,rfl⟩:=ay.1 hx
    by_cases e:s=t
    ·subst e;exact h3
    ·exact hQ s hs e)
   rw[ae]at this
   omega
  have Xl: ∀i,i<L→(fv (zw p (List.replicate L 0) (l0 p (t:Int) r) ((List.range la.length).map (kY p m row))) i:Fin p)=ev (qu (ic (t:Int)) (r.map ic)) (nc t)*fv (v t) i:=by
   intro i hi
   rw[h2 i]
   have e0:(fv (List.replicate L 0) i:Fin p)=0:=by
    unfold fv
    rw[af,d5]
    split<;>exact g7
   have e1: ∀l,l∈List.range (l0 p (t:Int) r).length→(ic ((l0 p (t:Int) r).getD l 0):Fin p)*fv (((List.range la.length).map (kY p m row)).getD l []) i=lsum la (fun s=>ic ((l0 p (t:Int) r).getD l 0)*(pw (nc s) l*fv (v s) i)):=by
    intro l hl
    rw[aD,uK,hr]at hl
    have:((List.range la.length).map (kY p m row)).getD l []=kY p m row l:=by
     rw[af,ag,aX hl]
     rfl
    rw[this,IB E l i hi,bU]
   rw[e0,bc e1,jf]
   have e2: ∀s∈la,lsum (List.range (l0 p (t:Int) r).length) (fun l=>(ic ((l0 p (t:Int) r).getD l 0):Fin p)*(pw (nc s) l*fv (v s) i))=ev (qu (ic (t:Int)) (r.map ic)) (nc s)*fv (v s) i:=by
    intro s hs
    have e3:qu (ic (t:Int)) (r.map ic)=(List.range (l0 p (t:Int) r).length).map (fun l=>(ic ((l0 p (t:Int) r).getD l 0):Fin p)):=by
     rw[←zA]
     apply bO (by simp)
     intro i g1 g2
     rw[ae]at g1
     rw[bY,bY,cM,af,aj g1]
     rfl
    rw[e3,CY,cG]
    apply bc
    intro l _
    grind
   rw[bc e2,fA (E.sorted.imp (fun h=>Nat.ne_of_lt h)) ht _ (fun s hs df=>by rw[hQ s hs df];grind)]
   grind
  show mulR p (zw p (List.replicate L 0) (l0 p (t:Int) r) ((List.range la.length).map (kY p m row))) (gW p (gy p (l0 p (t:Int) r) (t:Int)))=v t
  have vF:(ic (gy p (l0 p (t:Int) r) (t:Int)):Fin p)=ev (qu (ic (t:Int)) (r.map ic)) (nc t):=by
   rw[uJ,zA,kC]
  have hinv:=sP hp (a:=gy p (l0 p (t:Int) r) (t:Int)) (by rw[vF];exact hQt)
  rw[vF]at hinv
  apply PR (oN _ _) (E.Xg t ht) (by rw[oO,h1,E.Tg t ht])
  intro i hi
  rw[oO,h1]at hi
  rw[uI,Xl i hi]
  grind
end
end Ch
end
section
namespace Ch
open Lean.Grind (Semiring Ring CommRing CommSemiring)
namespace Cl
variable{n r:Nat}{G:Gp n}(C:Cl G r){p:Nat} [NeZero p]
structure kg(iv:Fin r→Fin p)(es:List (Alg G p))(wf:Alg G p→Fin r→Fin p):Prop where
 parts:Parts (Su.aT (A:=Alg G p)) 1 es
 len:es.length=r
 x9: ∀e∈es,C.Cv (wf e)
 mul: ∀e∈es,∀z,Su.aT z→z*e=io (C.iH (wf e) z)*e
 LX: ∀e∈es,∃d,1≤d∧d*d≤n∧nc (d*d)*C.norm iv (wf e)=nc n∧∀c,nc n*e.co c=nc (d*d)*(wf e (C.cl (G.inv c))*iv (C.cl (G.inv c)))
 inj: ∀e∈es,∀e'∈es,wf e=wf e'→e=e'
theorem Bh(hp:gR p)(VW:0<n)(g6:n≤24)(sr:n<p)(pV: ∀g,G.pow g p=g)(iv:Fin r→Fin p)(Cy: ∀i,nc (C.size i)*iv i=1):
  ∃es wf,C.kg iv es wf:=by
 let s:=Alg.su G hp VW sr pV
 have vp:iv (C.cl G.one)=1:=by
  have:=Cy (C.cl G.one)
  rw[C.rh,gN,aP]at this
  exact this
 have uo: ∀i,iv (C.opp i)=iv i:=by
  intro i
  have h1:=Cy i
  have h2:=Cy (C.opp i)
  rw[C.rj]at h2
  grind
 obtain⟨es,Q⟩:=Ch.parts s.ku s.eP (Su.aT (A:=Alg G p)) (fun _ _=>Su.oC) _ 1 Su.lj (aP 1) (aq _)
 have hlen:es.length=r:=by
  have h1:=s.rb Q
  have h2:=C.rk (p:=p) hp
  exact zf hp.1 (h1.symm.trans h2)
 have hex: ∀e:Alg G p,∃om:Alg G p→Fin p,e∈es→Su.l7 om∧∀z,Su.aT z→z*e=io (om z)*e:=by
  intro e
  by_cases he:e∈es
  ·obtain⟨om,h⟩:=s.vi (Q.prim e he)
   exact⟨om,fun _=>h⟩
  ·exact⟨fun _=>0,fun h=>absurd h he⟩
 obtain⟨om,x9⟩: ∃om:Alg G p→Alg G p→Fin p,∀e∈es,Su.l7 (om e)∧∀z,Su.aT z→z*e=io (om e z)*e:=
  ⟨fun e=>Classical.choose (hex e),fun e he=>dI (hex e) he⟩
 have Ib: ∀e∈es,om e e=1:=by
  intro e he
  have P:=Q.prim e he
  apply oB hp Alg.ig P.ne
  rw[←(x9 e he).2 e P.mem,P.idem,jh Alg.ig,aP]
 have L6: ∀e∈es,∀z,Su.aT z→om e z=C.iH (fun i=>om e (C.cs i)) z:=fun e he z hz=>C.qj (x9 e he).1 hz
 have hmul: ∀e∈es,∀z,Su.aT z→z*e=io (C.iH (fun i=>om e (C.cs i)) z)*e:=by
  intro e he z hz
  rw[←L6 e he z hz]
  exact(x9 e he).2 z hz
 refine⟨es,fun e i=>om e (C.cs i),Q,hlen,fun e he=>C.sG (x9 e he).1,hmul,?_,?_⟩
 ·intro e he
  have H:=C.sG (x9 e he).1
  have P:=Q.prim e he
  have FV:C.iH (fun i=>om e (C.cs i)) e=1:=by rw[←L6 e he e P.mem];exact Ib e he
  obtain⟨d,vf,hd2,Hv⟩:=s.qa (by show(List.finRange n).length≤24;rw[cx];exact g6) P
  have h3:=C.Ia s iv Cy vp uo H P (hmul e he) FV
  have W6:s.gs.length=n:=cx
  rw[W6]at hd2 Hv
  have Lo:nc (d*d)*C.norm iv (fun i=>om e (C.cs i))=nc n:=by
   have ht:s.t e=e.co G.one:=rfl
   rw[Hv,ht]
   grind
  refine⟨d,vf,hd2,Lo,fun c=>?_⟩
  rw[←Lo,aa,C.HZ s iv Cy vp uo H P (hmul e he) FV c]
 ·intro a ha b hb h
  have Pa:=Q.prim a ha
  have Pb:=Q.prim b hb
  apply ai
  intro df
  have h1:om a b=om b b:=by
   have h':(fun i=>om a (C.cs i))=(fun i=>om b (C.cs i)):=h
   rw[L6 a ha b Pb.mem,L6 b hb b Pb.mem,h']
  rw[Ib b hb]at h1
  have h2:=(x9 a ha).2 b Pb.mem
  rw[h1,jh Alg.ig,aP]at h2
  have h3:a*b=0∧b*a=0:=by
   have: ∀(l:List (Alg G p)),l.Pairwise (fun a b=>a*b=0∧b*a=0)→a∈l→b∈l→a*b=0∧b*a=0:=by
    intro l hl ha hb
    induction l with
    |nil=>simp at ha
    |cons c l ih=>
     rw[cu]at hl
     rcases aH.1 ha with rfl|AG
     ·rcases aH.1 hb with rfl|ke
      ·exact absurd rfl df
      ·exact hl.1 b ke
     ·rcases aH.1 hb with rfl|ke
      ·exact(hl.1 a AG).symm
      ·exact ih hl.2 AG ke
   exact this es Q.um ha hb
  rw[h3.2]at h2
  exact Pa.ne h2.symm
def fN(z:Alg G p):List Int:=(List.finRange r).map fun i=>((z.co (C.rep i)).val:Int)
def Bi(i:Fin r):List (List Int):=(List.finRange r).map fun c=>(List.finRange r).map fun j=>(C.ways i j (C.rep c):Int)
theorem me(z:Alg G p):(C.fN z).length=r:=by simp[fN]
theorem wb(z:Alg G p):pW p (C.fN z):=by
 intro x hx
 obtain⟨i,_,rfl⟩:=ay.1 hx
 have:=(z.co (C.rep i)).isLt
 omega
theorem tY(F:Fin r→Int)(i:Fin r):(fv ((List.finRange r).map F) i.val:Fin p)=ic (F i):=by
 unfold fv
 rw[af,ag,aj (by rw[cx];exact i.isLt),xp]
 rfl
theorem pK(z:Alg G p)(i:Fin r):(fv (C.fN z) i.val:Fin p)=z.co (C.rep i):=by
 rw[fN,tY,CU]
theorem xO(f:Nat→Fin p):lsum (List.range r) f=fs (fun i:Fin r=>f i.val):=by
 rw[Sp.iP,iO]
 rfl
theorem PY{z:Alg G p}(hz:Su.aT z)(i c:Fin r):(fv (md p (C.Bi i) (C.fN z)) c.val:Fin p)=(C.cs i*z).co (C.rep c):=by
 rw[zy (L:=r) (by simp[Bi]) (by intro x hx;obtain⟨y,_,rfl⟩:=ay.1 hx;simp) (C.me z) c.isLt,xO]
 have hmc:(C.Bi i).getD c.val []=(List.finRange r).map fun j=>(C.ways i j (C.rep c):Int):=by
  rw[Bi,af,ag,aj (by rw[cx];exact c.isLt),xp]
  rfl
 have hs:=ft (fun a:Fin r=>fs (fun j:Fin r=>(C.cs i:Alg G p).co (C.rep a)*z.co (C.rep j)*nc (C.ways a j (C.rep c)))) i (fun b hb=>by
  have:(C.cs i:Alg G p).co (C.rep b)=0:=by
   show(if C.cl (C.rep b)=i then(1:Fin p)else 0)=0
   rw[C.fS,aI hb]
  show fs (fun j:Fin r=>(C.cs i:Alg G p).co (C.rep b)*z.co (C.rep j)*nc (C.ways b j (C.rep c)))=0
  rw[this,show(fun j:Fin r=>(0:Fin p)*z.co (C.rep j)*nc (C.ways b j (C.rep c)))=(fun _=>0) by funext j;grind,zj])
 rw[C.vo (C.dh i) hz,hs]
 apply bp
 intro j
 rw[hmc,tY,kC,C.pK]
 have:(C.cs i:Alg G p).co (C.rep i)=1:=by
  show(if C.cl (C.rep i)=i then(1:Fin p)else 0)=1
  rw[C.fS,aO rfl]
 rw[this]
 grind
def lg(S:List (Alg G p)):Alg G p:=lsum S (fun e=>e)
theorem IF(S:List (Alg G p))(c:Fin n):(lg S).co c=lsum S (fun e=>e.co c):=Alg.qi S _ c
theorem jH{S:List (Alg G p)}(h: ∀e∈S,Su.aT e):Su.aT (lg S):=by
 induction S with
 |nil=>exact Su.eR
 |cons e S ih=>
  show Su.aT (e+lg S)
  exact Su.iA (h e (by simp)) (ih fun x hx=>h x (by simp[hx]))
end Cl
end Ch
end
section
namespace Ch
open Lean.Grind (Semiring Ring CommRing CommSemiring)
theorem C1{α:Type}{R:Type} [Semiring R](l:List α)(k:α→Nat)(la:List Nat)(hn:la.Nodup)(hk: ∀a∈l,k a∈la)(f:α→R):
  lsum la (fun x=>lsum (l.filter fun a=>decide (k a=x)) f)=lsum l f:=by
 have h1: ∀x∈la,lsum (l.filter fun a=>decide (k a=x)) f=lsum l (fun a=>if decide (k a=x)=true then f a else 0):=fun x _=>jF l _ f
 rw[bc h1,jf]
 apply bc
 intro a ha
 rw[fA hn (hk a ha) _ (fun b _ hb=>by rw[aI];simpa using fun e=>hb e.symm)]
 simp
namespace Cl
variable{n r:Nat}{G:Gp n}(C:Cl G r){p:Nat} [NeZero p]
def vals(wf:Alg G p→Fin r→Fin p)(i:Fin r)(S:List (Alg G p)):List Nat:=(List.range p).filter fun x=>S.any fun e=>decide ((wf e i).val=x)
def sub(wf:Alg G p→Fin r→Fin p)(i:Fin r)(S:List (Alg G p))(x:Nat):List (Alg G p):=S.filter fun e=>decide ((wf e i).val=x)
theorem mf{wf:Alg G p→Fin r→Fin p}{i:Fin r}{S:List (Alg G p)}{x:Nat}:x∈vals wf i S↔ ∃e∈S,(wf e i).val=x:=by
 rw[vals,bg,aD,cS]
 constructor
 ·rintro⟨_,e,he,h⟩;exact⟨e,he,by simpa using h⟩
 ·rintro⟨e,he,h⟩;exact⟨by rw[←h];exact(wf e i).isLt,e,he,by simpa using h⟩
theorem kh{wf:Alg G p→Fin r→Fin p}{i:Fin r}{S:List (Alg G p)}{x:Nat}{e:Alg G p}:e∈sub wf i S x↔e∈S∧(wf e i).val=x:=by
 rw[sub,bg];simp
variable{iv:Fin r→Fin p}{es:List (Alg G p)}{wf:Alg G p→Fin r→Fin p}{C}
theorem kg.um(I:C.kg iv es wf){a b:Alg G p}(ha:a∈es)(hb:b∈es)(df:a≠b):a*b=0:=by
 have: ∀(l:List (Alg G p)),l.Pairwise (fun a b=>a*b=0∧b*a=0)→a∈l→b∈l→a*b=0∧b*a=0:=by
  intro l hl ha hb
  induction l with
  |nil=>simp at ha
  |cons c l ih=>
   rw[cu]at hl
   rcases aH.1 ha with rfl|AG
   ·rcases aH.1 hb with rfl|ke
    ·exact absurd rfl df
    ·exact hl.1 b ke
   ·rcases aH.1 hb with rfl|ke
    ·exact(hl.1 a AG).symm
    ·exact ih hl.2 AG ke
 exact(this es I.parts.um ha hb).1
theorem kg.nodup(I:C.kg iv es wf):es.Nodup:=vq I.parts
theorem kg.L7(I:C.kg iv es wf){e:Alg G p}(he:e∈es):Su.aT e:=(I.parts.prim e he).mem
theorem kg.qV(I:C.kg iv es wf){S:List (Alg G p)}(hS: ∀e∈S,e∈es){e:Alg G p}(he:e∈es)(hn:e∉S):lg S*e=0:=by
 rw[lg,cG,←fo (R:=Alg G p) S]
 apply bc
 intro a ha
 exact I.um (hS a ha) he (fun e'=>hn (e'▸ha))
theorem kg.Bj(I:C.kg iv es wf){S:List (Alg G p)}(hS: ∀e∈S,e∈es)(hn:S.Nodup){e:Alg G p}(he:e∈S):lg S*e=e:=by
 classical
 rw[lg,cG,fA hn he _ (fun b hb df=>I.um (hS b hb) (hS e he) df)]
 exact(I.parts.prim e (hS e he)).idem
theorem kg.Cw(I:C.kg iv es wf){e:Alg G p}(he:e∈es)(i:Fin r):C.cs i*e=io (wf e i)*e:=by
 rw[I.mul e he _ (C.dh i),C.zl]
theorem kg.Xh(hp:gR p)(I:C.kg iv es wf){S:List (Alg G p)}(hn:S.Nodup)(hS: ∀e∈S,e∈es)(i:Fin r):
  L3 p r (C.Bi i) (C.fN (lg S)) (vals wf i S) (fun x=>C.fN (lg (sub wf i S x))):=by
 have Tj: ∀x,Su.aT (lg (sub wf i S x)):=fun x=>jH fun e he=>I.L7 (hS e (kh.1 he).1)
 have PZ:(vals wf i S).Nodup:=p5 oy da
 refine⟨by simp[Bi],?_,C.me _,C.wb _,fun t _=>C.me _,fun t _=>C.wb _,?_,?_,?_,?_,?_,?_⟩
 ·intro x hx
  obtain⟨y,_,rfl⟩:=ay.1 hx
  simp
 ·intro c hc
  have h1:=C.pK (lg S) ⟨c,hc⟩
  have h2: ∀t∈vals wf i S,(fv (C.fN (lg (sub wf i S t))) c:Fin p)=lsum (S.filter fun e=>decide ((wf e i).val=t)) (fun e=>e.co (C.rep ⟨c,hc⟩)):=by
   intro t _
   have:=C.pK (lg (sub wf i S t)) ⟨c,hc⟩
   rw[show(⟨c,hc⟩:Fin r).val=c from rfl]at this
   rw[this,IF]
   rfl
  rw[show(⟨c,hc⟩:Fin r).val=c from rfl]at h1
  rw[h1,bc h2,C1 S (fun e=>(wf e i).val) _ PZ (fun e he=>mf.2 ⟨e,he,rfl⟩),IF]
 ·intro t ht c hc
  have h1:=C.PY (Tj t) i ⟨c,hc⟩
  rw[show(⟨c,hc⟩:Fin r).val=c from rfl]at h1
  have h2:C.cs i*lg (sub wf i S t)=io (nc t:Fin p)*lg (sub wf i S t):=by
   rw[lg,bU,bU]
   apply bc
   intro e he
   obtain⟨h3,h4⟩:=kh.1 he
   rw[I.Cw (hS e h3),←h4,gO]
  have h5:=C.pK (lg (sub wf i S t)) ⟨c,hc⟩
  rw[show(⟨c,hc⟩:Fin r).val=c from rfl]at h5
  rw[h1,h2,Alg.nU,h5]
 ·intro f hf t ht
  let z:Alg G p:=lsum (vals wf i S) (fun x=>io (f x)*lg (sub wf i S x))
  have Od:Su.aT z:=by
   have: ∀l:List Nat,Su.aT (lsum l (fun x=>(io (f x):Alg G p)*lg (sub wf i S x))):=by
    intro l
    induction l with
    |nil=>exact Su.eR
    |cons a l ih=>exact Su.iA (Su.dP (Su.f7 _) (Tj a)) ih
   exact this _
  have hz:z=0:=by
   apply C.Cu Od Su.eR
   intro c
   show(lsum (vals wf i S) (fun x=>io (f x)*lg (sub wf i S x))).co (C.rep c)=_
   rw[Alg.qi,Alg.rf,←hf c.val c.isLt]
   apply bc
   intro x _
   rw[Alg.nU,C.pK]
  obtain⟨e,he,het⟩:=mf.1 ht
  have h1:z*e=io (f t)*e:=by
   show lsum (vals wf i S) (fun x=>io (f x)*lg (sub wf i S x))*e=_
   rw[cG,fA PZ ht _ (fun x _ hx=>by
    rw[aa,I.qV (fun a ha=>hS a (kh.1 ha).1) (hS e he) (fun h=>hx (by rw[←(kh.1 h).2,het])),aR])]
   rw[aa,I.Bj (fun a ha=>hS a (kh.1 ha).1) (p5 oy hn) (kh.2 ⟨he,het⟩)]
  rw[hz,az]at h1
  apply ai
  intro h2
  exact(I.parts.prim e (hS e he)).ne (pz hp Alg.ig h2 h1.symm)
 ·intro t ht
  obtain⟨e,_,h⟩:=mf.1 ht
  rw[←h]
  exact(wf e i).isLt
 ·exact nF _ gY
 ·classical
  have h1:(vals wf i S).length≤(S.map fun e=>(wf e i).val).length:=a8 PZ (fun x hx=>by
   obtain⟨e,he,h⟩:=mf.1 hx
   exact ay.2 ⟨e,he,h⟩)
  have h2:S.length≤es.length:=a8 hn hS
  rw[ae]at h1
  rw[I.len]at h2
  omega
structure mh(es:List (Alg G p))(wf:Alg G p→Fin r→Fin p)(k:Nat)(Ps:List (List (Alg G p))):Prop where
 perm:Ps.flatten.Perm es
 ne: ∀S∈Ps,S≠[]
 agree: ∀S∈Ps,∀e∈S,∀e'∈S,∀j:Fin r,j.val<k→wf e j=wf e' j
def step(wf:Alg G p→Fin r→Fin p)(i:Fin r)(S:List (Alg G p)):List (List (Alg G p)):=(vals wf i S).map (sub wf i S)
theorem pX{α:Type}(l:List α)(k:α→Nat): ∀(la:List Nat),la.Nodup→(∀a∈l,k a∈la)→(la.flatMap fun x=>l.filter fun a=>decide (k a=x)).Perm l:=by
 intro la
 induction la generalizing l with
 |nil=>
  intro _ h
  cases l with
  |nil=>exact gH _
  |cons a l=>exact absurd (h a (by simp)) (by simp)
 |cons x la ih=>
  intro hn h
  rw[bV]at hn
  rw[dj]
  have h1:(la.flatMap fun y=>l.filter fun a=>decide (k a=y))=la.flatMap fun y=>(l.filter fun a=>!decide (k a=x)).filter fun a=>decide (k a=y):=by
   have key: ∀y∈la,(l.filter fun a=>decide (k a=y))=(l.filter fun a=>!decide (k a=x)).filter fun a=>decide (k a=y):=by
    intro y hy
    rw[pZ]
    apply List.filter_congr
    intro a _
    by_cases e:k a=y
    ·have: ¬k a=x:=fun e2=>hn.1 (by rw[←e2,e];exact hy)
     simp[e]
     intro e3;exact this (by rw[e,e3])
    ·simp[e]
   clear ih h hn
   induction la with
   |nil=>rfl
   |cons b la SA=>
    rw[dj,dj,key b (by simp),SA (fun y hy=>key y (by simp[hy]))]
  rw[h1]
  have h2:=ih (l.filter fun a=>!decide (k a=x)) hn.2 (fun a ha=>by
   rw[bg]at ha
   rcases aH.1 (h a ha.1)with e|e
   ·rw[e]at ha;simp at ha
   ·exact e)
  exact(List.Perm.append_left _ h2).trans (List.filter_append_perm (fun a=>decide (k a=x)) l)
theorem F5(wf:Alg G p→Fin r→Fin p)(i:Fin r)(S:List (Alg G p)):(step wf i S).flatten.Perm S:=by
 have h:=pX S (fun e=>(wf e i).val) (vals wf i S) (p5 oy da) (fun e he=>mf.2 ⟨e,he,rfl⟩)
 rw[step]
 rw[List.flatMap]at h
 exact h
theorem mh.step{k:Nat}{Ps:List (List (Alg G p))}(P:mh es wf k Ps)(hk:k<r):mh es wf (k+1) (Ps.flatMap (Cl.step wf ⟨k,hk⟩)):=by
 refine⟨?_,?_,?_⟩
 ·refine List.Perm.trans ?_ P.perm
  have: ∀Ps:List (List (Alg G p)),(Ps.flatMap (Cl.step wf ⟨k,hk⟩)).flatten.Perm Ps.flatten:=by
   intro Ps
   induction Ps with
   |nil=>exact gH _
   |cons S Ps ih=>
    rw[dj,List.flatten_append,List.flatten_cons]
    exact(F5 wf _ S).append ih
  exact this Ps
 ·intro T hT
  obtain⟨S,hS,hT⟩:=dZ.1 hT
  obtain⟨x,hx,rfl⟩:=ay.1 hT
  obtain⟨e,he,h⟩:=mf.1 hx
  exact List.ne_nil_of_mem (kh.2 ⟨he,h⟩)
 ·intro T hT e he e' C2 j hj
  obtain⟨S,hS,hT⟩:=dZ.1 hT
  obtain⟨x,hx,rfl⟩:=ay.1 hT
  obtain⟨h1,h2⟩:=kh.1 he
  obtain⟨h3,h4⟩:=kh.1 C2
  by_cases e2:j.val=k
  ·have:j=⟨k,hk⟩:=du e2
   subst this
   exact du (h2.trans h4.symm)
  ·exact P.agree S hS e h1 e' h3 j (by omega)
theorem wc: ∀(Ps:List (List (Alg G p))),(∀S∈Ps,S≠[])→Ps.length≤Ps.flatten.length∧(Ps.length=Ps.flatten.length→∀S∈Ps,S.length=1)
 |[],_=>⟨aq _,fun _ S hS=>by cases hS⟩
 |S::Ps,h=>by
  obtain⟨h1,h2⟩:=wc Ps (fun T hT=>h T (by simp[hT]))
  have h3:=List.length_pos_iff.2 (h S (by simp))
  rw[List.flatten_cons,bC,aC]
  refine⟨by omega,fun e T hT=>?_⟩
  rcases aH.1 hT with rfl|hT
  ·omega
  ·exact h2 (by omega) T hT
theorem mh.le(I:C.kg iv es wf){k:Nat}{Ps:List (List (Alg G p))}(P:mh es wf k Ps):Ps.length≤r:=by
 have:=(wc Ps P.ne).1
 rw[P.perm.length_eq,I.len]at this
 exact this
theorem mh.sub(P:mh es wf k Ps){S:List (Alg G p)}(hS:S∈Ps): ∀e∈S,e∈es:=fun e he=>P.perm.mem_iff.1 (List.mem_flatten.2 ⟨S,hS,he⟩)
theorem mh.nd(I:C.kg iv es wf){k:Nat}{Ps:List (List (Alg G p))}(P:mh es wf k Ps){S:List (Alg G p)}(hS:S∈Ps):S.Nodup:=by
 have h1:Ps.flatten.Nodup:=P.perm.nodup_iff.2 I.nodup
 exact p5 (List.sublist_flatten_of_mem hS) h1
theorem single{α:Type}: ∀(Ps:List (List α)),(∀S∈Ps,S.length=1)→Ps=Ps.flatten.map fun e=>[e]
 |[],_=>rfl
 |S::Ps,h=>by
  have h1:=h S (by simp)
  match S,h1 with
  |[a],_=>
   rw[List.flatten_cons,bo,←single Ps (fun T hT=>h T (by simp[hT]))]
   rfl
theorem mh.full(I:C.kg iv es wf){k:Nat}{Ps:List (List (Alg G p))}(P:mh es wf k Ps)(h:Ps.length=r): ∀S∈Ps,S.length=1:=by
 refine(wc Ps P.ne).2 ?_
 rw[P.perm.length_eq,I.len,h]
theorem mh.next(I:C.kg iv es wf){k:Nat}{Ps:List (List (Alg G p))}(P:mh es wf k Ps)(h:Ps.length=r):mh es wf (k+1) Ps:=by
 refine⟨P.perm,P.ne,fun S hS e he e' C2 j _=>?_⟩
 have h1:=P.full I h S hS
 match S,h1 with
 |[a],_=>
  rw[aQ]at he C2
  rw[he,C2]
theorem mh.all(I:C.kg iv es wf){Ps:List (List (Alg G p))}(P:mh es wf r Ps):Ps.flatten.Perm es∧Ps=Ps.flatten.map fun e=>[e]:=by
 refine⟨P.perm,single Ps fun S hS=>?_⟩
 have hn:=P.nd I hS
 match S,P.ne S hS with
 |[a],_=>rfl
 |a::b::S,_=>
  exfalso
  have h1:a=b:=I.inj a (P.sub hS a (by simp)) b (P.sub hS b (by simp)) (funext fun j=>P.agree _ hS a (by simp) b (by simp) j j.isLt)
  subst h1
  simp at hn
theorem mh.start(I:C.kg iv es wf)(h0:(C.cl G.one).val=0)(hr:0<r):mh es wf 1 [es]:=by
 refine⟨by simp,?_,?_⟩
 ·intro S hS
  rw[aQ]at hS
  subst hS
  intro e
  have:=I.len
  rw[e]at this
  simp at this
  omega
 ·intro S hS e he e' C2 j hj
  rw[aQ]at hS
  subst hS
  have:j=C.cl G.one:=du (by omega)
  rw[this,(I.x9 e he).one,(I.x9 e' C2).one]
end Cl
end Ch
end
section
namespace Sp
open Rd01 Ch
open Lean.Grind (Semiring Ring CommRing CommSemiring)
section
variable{n r:Nat}{G:Gp n}(C:Cl G r){p:Nat} [NeZero p]
theorem L8(i:Fin r):C.opp (C.opp i)=i:=by
 have h1:C.opp i=C.cl (G.inv (C.rep i)):=rfl
 rw[h1,←C.vm,G.inv_inv,C.fS]
theorem IG(hp:gR p)(h0:(C.cl G.one).val=0)(hr:0<r):C.fN (1:Alg G p)=1::List.replicate (r-1) 0:=by
 apply bO (by rw[C.me,aC,xr];omega)
 intro i h1 h2
 rw[C.me]at h1
 have e1:(C.fN (1:Alg G p))[i]=(((1:Alg G p).co (C.rep ⟨i,h1⟩)).val:Int):=by simp[Cl.fN]
 rw[e1,Alg.oF]
 cases i with
 |zero=>
  have:C.rep ⟨0,h1⟩=G.one:=by
   have h3:(⟨0,h1⟩:Fin r)=C.cl G.one:=du h0.symm
   rw[h3,C.Ee]
  rw[aO this]
  show((1 % p:Nat):Int)=1
  rw[aM (by have:=hp.1;omega)]
  rfl
 |succ i=>
  have:C.rep ⟨i+1,h1⟩≠G.one:=by
   intro e
   have h3:=C.fS ⟨i+1,h1⟩
   rw[e]at h3
   have:=ba Fin.val h3
   rw[h0]at this
   simp at this
  rw[aI this]
  simp[kc]
end
section
variable{g:Grp}(h:jO g){p:Nat} [NeZero p]
def WN{r:Nat}(w:Fin r→Fin p)(i:Nat):Nat:=if hi:i<r then(w ⟨i,hi⟩).val else 0
theorem Eo{r:Nat}(w:Fin r→Fin p)(i:Fin r):(nc (WN w i.val):Fin p)=w i:=by
 unfold WN
 rw[dif_pos i.isLt,gO]
def we(g:Grp)(i:Nat):Nat:=(factsOf g).opp.getD i 0
include h in
theorem zC(hp:gR p)(Cj:2*g.n<p){es:List (Alg (gp h) p)}{wf:Alg (gp h) p→Fin (factsOf g).many→Fin p}(I:(classes h).kg (jS g p) es wf){e:Alg (gp h) p}(he:e∈es):
  ∃d:Nat,1≤d∧d*d≤g.n∧(mulR p ((classes h).fN e) (g.n:Int)).getD 0 0=((d*d:Nat):Int)∧
   (List.range (factsOf g).many).map (fun i=>(mulR p (mulR p ((classes h).fN e) (g.n:Int)) (gW p (d:Int))).getD (we g i) 0)=(rowOf (factsOf g) p d (WN (wf e))).map (fun(x:Nat)=>(x:Int))∧
   vJ (factsOf g) p (rowOf (factsOf g) p d (WN (wf e)))∧val (rowOf (factsOf g) p d (WN (wf e))) 0=d:=by
 obtain⟨d,vf,hd2,Hv,Hx⟩:=I.LX e he
 have hm:=eU h h.pos
 have sr:g.n<p:=by omega
 have Lo:d≤g.n:=bW (cH d (by omega)) hd2
 have hWN:(fun i:Fin (factsOf g).many=>(nc (WN (wf e) i.val):Fin p))=wf e:=funext fun i=>Eo (wf e) i
 have hH:(classes h).Cv (fun i=>(nc (WN (wf e) i.val):Fin p)):=by rw[hWN];exact I.x9 e he
 have Xm: ∀i,i<(factsOf g).many→WN (wf e) i<p:=by
  intro i hi
  unfold WN
  rw[dif_pos hi]
  exact(wf e ⟨i,hi⟩).isLt
 have hs:d*d*rA (factsOf g) p (WN (wf e)) % p=g.n % p:=by
  rw[←lu h,hWN]
  exact Hv
 have vp:wf e ((classes h).cl (gp h).one)=1:=(I.x9 e he).one
 have FR:(classes h).cl (gp h).one=⟨0,hm⟩:=du (gP h)
 have Xb:WN (wf e) 0=1:=by
  unfold WN
  rw[dif_pos hm,←FR,vp]
  show 1 % p=1
  exact aM (by have:=hp.1;omega)
 have key: ∀j:Fin (factsOf g).many,(fv (mulR p ((classes h).fN e) (g.n:Int)) j.val:Fin p)=nc (d*d)*(wf e ((classes h).opp j)*jS g p ((classes h).opp j)):=by
  intro j
  rw[uI,(classes h).pK,kC]
  have:=Hx ((classes h).rep j)
  rw[gG]at this
  exact this
 have F6:pW p (mulR p ((classes h).fN e) (g.n:Int)):=oN _ _
 have Xn:(mulR p ((classes h).fN e) (g.n:Int)).getD 0 0=((d*d:Nat):Int):=by
  apply vV (F6.at_ 0).1 (F6.at_ 0).2 (by omega) (by omega)
  have h1:=key ⟨0,hm⟩
  have ho:(classes h).opp ⟨0,hm⟩=⟨0,hm⟩:=by
   rw[←FR,←(classes h).vm,(gp h).inv_one]
  rw[ho]at h1
  show(fv (mulR p ((classes h).fN e) (g.n:Int)) 0:Fin p)=_
  rw[show(⟨0,hm⟩:Fin (factsOf g).many).val=0 from rfl]at h1
  rw[h1,kC,←FR,vp,FR]
  have:jS g p ⟨0,hm⟩=1:=by
   unfold jS
   rw[show(⟨0,hm⟩:Fin (factsOf g).many).val=0 from rfl,mS h hp sr,gN]
  rw[this]
  grind
 refine⟨d,vf,hd2,Xn,?_,vO h hp Cj Xm hH vf hd2 hs,?_⟩
 ·rw[rowOf,aU]
  apply bM
  intro i hi
  rw[aD]at hi
  have hinv:(ic (d:Int):Fin p)*ic (gW p (d:Int))=1:=sP hp (by
   intro e0
   have:=(mW (p:=p) (a:=(d:Int)) (by omega) (by omega)).1 e0
   omega)
  have ho:we g i=((classes h).opp ⟨i,hi⟩).val:=(zp h ⟨i,hi⟩).symm
  have Oh:pW p (mulR p (mulR p ((classes h).fN e) (g.n:Int)) (gW p (d:Int))):=oN _ _
  show _=((d*(WN (wf e) i*under (factsOf g) p i) % p:Nat):Int)
  apply vV (p:=p) (Oh.at_ _).1 (Oh.at_ _).2 (by omega) (by have:=p0 (d*(WN (wf e) i*under (factsOf g) p i)) (p_pos (p:=p));omega)
  show(fv (mulR p (mulR p ((classes h).fN e) (g.n:Int)) (gW p (d:Int))) (we g i):Fin p)=_
  rw[uI,ho,key,L8,kC,rp,cf,cf,cf]
  have h2:=Eo (wf e) ⟨i,hi⟩
  rw[show(⟨i,hi⟩:Fin (factsOf g).many).val=i from rfl]at h2
  rw[h2]
  show _=nc d*(wf e ⟨i,hi⟩*jS g p ⟨i,hi⟩)
  rw[kC]at hinv
  grind
 ·rw[gx hm,Xb,mS h hp sr,Nat.mul_one,aM (by omega)]
include h in
theorem IH(hp:gR p)(Cj:2*g.n<p){w w':Fin (factsOf g).many→Fin p}{d d':Nat}(vf:1≤d)(hd2:d≤g.n)(hv:val (rowOf (factsOf g) p d (WN w)) 0=d)(vz:val (rowOf (factsOf g) p d' (WN w')) 0=d')
  (e:rowOf (factsOf g) p d (WN w)=rowOf (factsOf g) p d' (WN w')):w=w':=by
 have hdd:d=d':=by rw[←hv,←vz,e]
 subst hdd
 funext i
 have e1:val (rowOf (factsOf g) p d (WN w)) i.val=val (rowOf (factsOf g) p d (WN w')) i.val:=by rw[e]
 rw[gx i.isLt,gx i.isLt,←dn (p:=p),cf,cf,cf,cf,Eo,Eo]at e1
 have Tf:(nc d:Fin p)≠0:=by rw[eD,eH,aM (by omega)];omega
 have e2:=dH hp Tf e1
 have e3:=jx h hp (p:=p) (by omega) i
 rw[jS]at e3
 have e5:w i=nc ((classes h).size i)*(w i*nc (under (factsOf g) p i.val)):=by grind
 have e6:w' i=nc ((classes h).size i)*(w' i*nc (under (factsOf g) p i.val)):=by grind
 rw[e5,e6,e2]
theorem Bk{α:Type}{l m:List α}(hl:l.Nodup)(hm:m.Nodup)(hs: ∀x∈l,x∈m)(hle:m.length≤l.length):l.Perm m:=by
 classical
 refine cX hl hm fun x=>⟨hs x,fun hx=>?_⟩
 apply ai
 intro hn
 have:=a8 (l:=x::l) (m:=m) (bV.2 ⟨hn,hl⟩) (fun y hy=>by
  rcases aH.1 hy with rfl|hy
  ·exact hx
  ·exact hs y hy)
 rw[aC]at this
 omega
include h in
theorem wg(g6:g.n≤24)(hp:gR p)(Cj:2*g.n<p)(pV: ∀a,(gp h).pow a p=a){es:List (Alg (gp h) p)}{wf:Alg (gp h) p→Fin (factsOf g).many→Fin p}(I:(classes h).kg (jS g p) es wf):
  ∃(dg:Alg (gp h) p→Nat)(cr:Alg (gp h) p→List Nat),(∀e∈es,1≤dg e∧dg e*dg e≤g.n∧(mulR p ((classes h).fN e) (g.n:Int)).getD 0 0=((dg e*dg e:Nat):Int)∧
   (List.range (factsOf g).many).map (fun i=>(mulR p (mulR p ((classes h).fN e) (g.n:Int)) (gW p (dg e:Int))).getD (we g i) 0)=(cr e).map (fun(x:Nat)=>(x:Int)))∧
   ∀nZ:List (Alg (gp h) p),nZ.Perm es→(nZ.map cr).Perm ((factsOf g).chars p):=by
 have hx: ∀e:Alg (gp h) p,∃d:Nat,e∈es→1≤d∧d*d≤g.n∧(mulR p ((classes h).fN e) (g.n:Int)).getD 0 0=((d*d:Nat):Int)∧
   (List.range (factsOf g).many).map (fun i=>(mulR p (mulR p ((classes h).fN e) (g.n:Int)) (gW p (d:Int))).getD (we g i) 0)=(rowOf (factsOf g) p d (WN (wf e))).map (fun(x:Nat)=>(x:Int))∧
   vJ (factsOf g) p (rowOf (factsOf g) p d (WN (wf e)))∧val (rowOf (factsOf g) p d (WN (wf e))) 0=d:=by
  intro e
  by_cases he:e∈es
  ·obtain⟨d,hd⟩:=zC h hp Cj I he
   exact⟨d,fun _=>hd⟩
  ·exact⟨0,fun h'=>absurd h' he⟩
 refine⟨fun e=>Classical.choose (hx e),fun e=>rowOf (factsOf g) p (Classical.choose (hx e)) (WN (wf e)),fun e he=>?_,fun nZ L9=>?_⟩
 ·obtain⟨h1,h2,h3,h4,_⟩:=dI (hx e) he
  exact⟨h1,h2,h3,h4⟩
 ·obtain⟨c1,c2,c3⟩:=ky h g6 hp Cj pV
  apply Bk
  ·apply cR (L9.nodup_iff.2 I.nodup)
   intro a ha b hb e
   have AG:=L9.mem_iff.1 ha
   have ke:=L9.mem_iff.1 hb
   obtain⟨h1,h2,_,_,_,h6⟩:=dI (hx a) AG
   obtain⟨_,_,_,_,_,h6'⟩:=dI (hx b) ke
   exact I.inj a AG b ke (IH h hp Cj h1 (bW (cH _ (by omega)) h2) h6 h6' e)
  ·exact c1.imp (fun h' e=>by rw[e,vH]at h';cases h')
  ·intro x xZ
   obtain⟨e,he,rfl⟩:=ay.1 xZ
   exact(c3 _).2 (dI (hx e) (L9.mem_iff.1 he)).2.2.2.2.1
  ·rw[c2,ae,L9.length_eq,I.len]
   exact aq _
end
end Sp
end
section
namespace Sp
open Rd01 Ch
def oP(g:Grp)(i:Nat):List Nat:=(List.range g.n).filter fun a=>(factsOf g).classOf a==i
def Bl(g:Grp):List (List Int):=(List.range (factsOf g).many).map fun i=>(oP g i).map fun(x:Nat)=>(x:Int)
section
variable{g:Grp}(h:jO g)
include h
theorem F7{x a:Nat}(hx:x<g.n)(ha:a<g.n): ∃y,y<g.n∧a=cj g y (cj g x a):=by
 refine⟨(factsOf g).inverse x,jR h hx,?_⟩
 have h1:=l9 (gp h) ((gp h).inv ⟨x,hx⟩) ⟨x,hx⟩ ⟨a,ha⟩
 rw[(gp h).inv_mul,(gp h).one_mul,(gp h).inv_one,(gp h).mul_one]at h1
 have h2:=ba Fin.val h1
 exact h2.symm
theorem Ep{i:Nat}(hi:i<g.n)(hr:dQ g i=i){a:Nat}(ha:a<g.n):dQ g a=i↔ ∃x,x<g.n∧a=cj g x i:=by
 constructor
 ·intro e
  obtain⟨x,hx,hx2⟩:=l8 h ha
  obtain⟨y,hy,Lp⟩:=F7 h hx ha
  exact⟨y,hy,by rw[←e,hx2];exact Lp⟩
 ·rintro⟨x,hx,rfl⟩
  rw[lp h hx hi,hr]
theorem II{a:Nat}(ha:a<g.n):(factsOf g).classOf a=below g (dQ g a):=xM h ha
theorem kE{a:Nat}(ha:a<g.n):(factsOf g).classOf a<(factsOf g).many:=(eu h ha).1
theorem zD{a:Nat}(ha:a<g.n):(factsOf g).reps.getD ((factsOf g).classOf a) 0=dQ g a:=by
 obtain⟨h1,h2⟩:=eu h ha
 rw[af,aj h1]
 exact h2
theorem C3: ∀(l:List Nat)(x:Nat),l.Pairwise (·<·)→x∈l→(∀y∈l,x≤y)→l.head?=some x
 |[],x,_,hx,_=>by cases hx
 |a::l,x,hs,hx,hl=>by
  rw[cu]at hs
  rcases aH.1 hx with rfl|hx
  ·rfl
  ·have h1:=hl a (by simp)
   have h2:=hs.1 x hx
   omega
theorem F8{i:Nat}(hi:i<(factsOf g).many):(oP g i).head?=some ((factsOf g).reps[i]'hi):=by
 apply C3 h
 ·exact nF _ gY
 ·rw[oP,bg,aD]
  exact⟨jk h hi,by simpa using oI h hi⟩
 ·intro y hy
  rw[oP,bg,aD]at hy
  have h1:(factsOf g).classOf y=i:=by simpa using hy.2
  have h2:=zD h hy.1
  rw[h1,af,aj hi]at h2
  have h3:=Io h hy.1
  rw[←h2]at h3
  exact h3
theorem IJ{i:Nat}(hi:i<(factsOf g).many):(oP g i).length=(factsOf g).sizeOf_ i:=(sizeOf_eq g hi).symm
theorem rF(g:Grp):(Bl g).length=(factsOf g).many:=by simp[Bl]
theorem Er{i:Nat}(hi:i<(factsOf g).many):(Bl g)[i]? =some ((oP g i).map fun(x:Nat)=>(x:Int)):=by
 rw[Bl,ag,aX hi]
 rfl
theorem Ma{i a:Nat}(ha:a∈oP g i):a<g.n∧(factsOf g).classOf a=i:=by
 rw[oP,bg,aD]at ha
 exact⟨ha.1,by simpa using ha.2⟩
theorem rG:0<(factsOf g).many:=eU h h.pos
theorem lz:(factsOf g).many≤g.n:=by
 have h1:(factsOf g).reps.length≤(List.range g.n).length:=by
  rw[rm]
  exact eB _ _
 rw[bh]at h1
 exact h1
theorem Mb:(∃a,a<g.n∧(factsOf g).classOf a=(factsOf g).many-1)∧∀a,a<g.n→(factsOf g).classOf a≤(factsOf g).many-1:=by
 have hm:=rG h
 refine⟨⟨_,jk h (show(factsOf g).many-1<(factsOf g).many by omega),oI h _⟩,fun a ha=>?_⟩
 have:=kE h ha
 omega
end
end Sp
end
section
namespace Sp
open Rd01 Ch
def Canon(n:Nat)(l:List Nat):Prop:=l.Pairwise (·<·)∧∀a∈l,a<n
theorem rH(n:Nat)(q:Nat→Bool):Canon n ((List.range n).filter q):=
 ⟨nF _ gY,fun a ha=>by simpa using(bg.1 ha).1⟩
theorem Canon.nodup{n:Nat}{l:List Nat}(h:Canon n l):l.Nodup:=h.1.imp fun h=>br h
theorem Canon.ext{n:Nat}{l m:List Nat}(hl:Canon n l)(hm:Canon n m)(h: ∀a,a∈l↔a∈m):l=m:=yg hl.1 hm.1 h
theorem Canon.len{n:Nat}{l:List Nat}(h:Canon n l):l.length≤n:=by
 have:=a8 (m:=List.range n) h.nodup (fun a ha=>by simpa using h.2 a ha)
 rwa [bh]at this
theorem Canon.C4{n:Nat}{l m:List Nat}(hl:Canon n l)(hm:Canon n m)(hs: ∀a∈l,a∈m)(hle:m.length≤l.length):l=m:=by
 apply hl.ext hm
 intro a
 refine⟨hs a,fun ha=>?_⟩
 apply ai
 intro hn
 have:=a8 (l:=a::l) (m:=m) (bV.2 ⟨hn,hl.nodup⟩) (fun y hy=>by
  rcases aH.1 hy with rfl|hy
  ·exact ha
  ·exact hs y hy)
 rw[aC]at this
 omega
theorem IK{n:Nat}(go:List Nat→List Nat)(hc: ∀m,Canon n m→Canon n (go m))(hi: ∀m,Canon n m→∀a∈m,a∈go m): ∀(k:Nat)(l:List Nat),Canon n l→n≤l.length+k→
  Canon n (again go k l)∧go (again go k l)=again go k l∧∀a∈l,a∈again go k l:=by
 intro k
 induction k with
 |zero=>
  intro l hl hn
  refine⟨hl,?_,fun a ha=>ha⟩
  have h1:=(hc l hl).len
  exact(hl.C4 (hc l hl) (hi l hl) (by omega)).symm
 |succ k ih=>
  intro l hl hn
  unfold again
  by_cases e:go l=l
  ·simp only[e,fD]
   exact⟨hl,trivial,fun a ha=>ha⟩
  ·simp only[e,fb]
   have h1:l.length<(go l).length:=by
    apply ai
    intro h2
    exact e (hl.C4 (hc l hl) (hi l hl) (by omega)).symm
   obtain⟨g1,g2,g3⟩:=ih (go l) (hc l hl) (by omega)
   exact⟨g1,g2,fun a ha=>g3 a (hi l hl a ha)⟩
theorem Bm{n:Nat}(go:List Nat→List Nat)(T:Nat→Prop)(hc: ∀m,Canon n m→Canon n (go m))(hT: ∀m,Canon n m→(∀a∈m,T a)→∀a∈go m,T a): ∀(k:Nat)(l:List Nat),Canon n l→(∀a∈l,T a)→∀a∈again go k l,T a:=by
 intro k
 induction k with
 |zero=>intro l _ h;exact h
 |succ k ih=>
  intro l hl h
  unfold again
  by_cases e:go l=l
  ·simp only[e,fD]
   exact h
  ·simp only[e,fb]
   exact ih (go l) (hc l hl) (hT l hl h)
def tZ(g:Grp)(l:List Nat):List Nat:=(List.range g.n).filter fun(a:Nat)=>a==0||(l.flatMap fun(x:Nat)=>l.map fun(y:Nat)=>(factsOf g).comm x y).contains a
theorem C5(g:Grp)(l:List Nat):(factsOf g).derived l=again (factsOf g).more g.n (tZ g l):=rfl
section
variable{g:Grp}(h:jO g)
include h
theorem Bn{x a:Nat}(hx:x<g.n)(ha:a<g.n):(factsOf g).mul x ((factsOf g).mul ((factsOf g).inverse x) a)=a:=ba Fin.val ((gp h).mul_inv_cancel ⟨x,hx⟩ ⟨a,ha⟩)
theorem Bo{x a:Nat}(hx:x<g.n)(ha:a<g.n):(factsOf g).mul ((factsOf g).inverse x) ((factsOf g).mul x a)=a:=ba Fin.val ((gp h).inv_mul_cancel ⟨x,hx⟩ ⟨a,ha⟩)
theorem C6{a b c:Nat}(ha:a<g.n)(hb:b<g.n)(hc:c<g.n):(factsOf g).mul ((factsOf g).mul a b) c=(factsOf g).mul a ((factsOf g).mul b c):=ba Fin.val ((gp h).assoc ⟨a,ha⟩ ⟨b,hb⟩ ⟨c,hc⟩)
theorem yj{a:Nat}(ha:a<g.n):(factsOf g).mul 0 a=a:=ba Fin.val ((gp h).one_mul ⟨a,ha⟩)
theorem Mc{x y:Nat}(hx:x<g.n)(hy:y<g.n):(factsOf g).comm x y<g.n:=jQ h (jQ h (jQ h hx hy) (jR h hx)) (jR h hy)
theorem F9{x:Nat}(hx:x<g.n):(factsOf g).comm x x=0:=by
 have h1:(gp h).mul ((gp h).mul ((gp h).mul ⟨x,hx⟩ ⟨x,hx⟩) ((gp h).inv ⟨x,hx⟩)) ((gp h).inv ⟨x,hx⟩)=(gp h).one:=by
  rw[(gp h).assoc,(gp h).assoc,←(gp h).assoc ⟨x,hx⟩ ((gp h).inv ⟨x,hx⟩),(gp h).fk,(gp h).one_mul,(gp h).fk]
 exact ba Fin.val h1
theorem wj{l:List Nat}{a:Nat}:a∈(factsOf g).more l↔a<g.n∧(a∈l∨∃x∈l,(factsOf g).mul ((factsOf g).inverse x) a∈l):=by
 show a∈(List.range g.n).filter _↔_
 rw[bg,aD,eY,cS]
 simp
theorem oQ{l:List Nat}{a:Nat}:a∈tZ g l↔a<g.n∧(a=0∨∃x∈l,∃y∈l,(factsOf g).comm x y=a):=by
 unfold tZ
 rw[bg,aD,eY]
 simp[dZ]
structure Sub(g:Grp)(l:List Nat):Prop where
 canon:Canon g.n l
 zero:0∈l
 mul: ∀x∈l,∀y∈l,(factsOf g).mul x y∈l
theorem wk(m:List Nat)(hm:Canon g.n m):Canon g.n ((factsOf g).more m):=rH g.n _
theorem ki{l:List Nat}:Sub g ((factsOf g).derived l)∧(∀a∈tZ g l,a∈(factsOf g).derived l)∧∀T:Nat→Prop,(∀a∈tZ g l,T a)→(∀x y,x<g.n→y<g.n→T x→T y→T ((factsOf g).mul x y))→∀a∈(factsOf g).derived l,T a:=by
 rw[C5]
 have hb:Canon g.n (tZ g l):=rH g.n _
 obtain⟨h1,h2,h3⟩:=IK (factsOf g).more (wk h) (fun m hm a ha=>(wj h).2 ⟨hm.2 a ha,.inl ha⟩) g.n (tZ g l) hb (by omega)
 refine⟨⟨h1,h3 0 ((oQ h).2 ⟨h.pos,.inl rfl⟩),?_⟩,h3,?_⟩
 ·intro x hx y hy
  rw[←h2]
  have Lq:=h1.2 x hx
  have V1:=h1.2 y hy
  refine(wj h).2 ⟨jQ h Lq V1,.inr ⟨x,hx,?_⟩⟩
  rw[Bo h Lq V1]
  exact hy
 ·intro T P1 Tn
  refine Bm (factsOf g).more T (wk h) (fun m hm Xo a ha=>?_) g.n (tZ g l) hb P1
  obtain⟨han,ha⟩:=(wj h).1 ha
  rcases ha with ha|⟨x,hx,hy⟩
  ·exact Xo a ha
  ·have Lq:=hm.2 x hx
   have V1:=hm.2 _ hy
   rw[←Bn h Lq han]
   exact Tn _ _ Lq V1 (Xo x hx) (Xo _ hy)
theorem Es{l:List Nat}(S:Sub g l){x:Nat}(hx:x∈l):(factsOf g).inverse x∈l:=by
 have Lq:=S.canon.2 x hx
 obtain⟨e1,_,e3,_⟩:=gU h
 have SJ: ∀k,(factsOf g).pow x k∈l:=by
  intro k
  induction k with
  |zero=>exact S.zero
  |succ k ih=>exact S.mul _ ih x hx
 have h1:=e3 x Lq
 obtain⟨k,hk⟩: ∃k,(factsOf g).exponent=k+1:=⟨(factsOf g).exponent-1,by omega⟩
 rw[hk]at h1
 have h2:(factsOf g).mul ((factsOf g).pow x k) x=0:=h1
 have R4:=CI h Lq k
 have h3:=(gp h).sD (a:=⟨_,R4⟩) (b:=⟨x,Lq⟩) (du h2)
 have h4:(gp h).inv ⟨x,Lq⟩=⟨_,R4⟩:=by rw[h3,(gp h).inv_inv]
 have h5:=ba Fin.val h4
 have h6:(factsOf g).inverse x=(factsOf g).pow x k:=h5
 rw[h6]
 exact SJ k
theorem IM{l:List Nat}(S:Sub g l){x y:Nat}(hx:x∈l)(hy:y∈l):(factsOf g).comm x y∈l:=
 S.mul _ (S.mul _ (S.mul _ hx _ hy) _ (Es h S hx)) _ (Es h S hy)
theorem ua{l:List Nat}(S:Sub g l): ∀a∈(factsOf g).derived l,a∈l:=by
 refine(ki h).2.2 (fun a=>a∈l) (fun a ha=>?_) (fun x y _ _ hx hy=>S.mul x hx y hy)
 rcases((oQ h).1 ha).2 with rfl|⟨x,hx,y,hy,rfl⟩
 ·exact S.zero
 ·exact IM h S hx hy
theorem Md:Sub g (List.range g.n):=⟨⟨gY,fun a ha=>by simpa using ha⟩,aD.2 h.pos,fun x hx y hy=>aD.2 (jQ h (aD.1 hx) (aD.1 hy))⟩
theorem Me{l made ms:List Nat}(S:Sub g l)(sT: ∀a,a∈ms↔ ∃x∈l,∃y∈l,(factsOf g).comm x y=a)(tW: ∀m∈ms,m∈made)(eI: ∀a∈made,a<g.n)(lO: ∀a∈made,∀m∈ms,(factsOf g).mul a m∈made)
  (P2: ∀T:Nat→Prop,(∀m∈ms,T m)→(∀x m,x<g.n→T x→m∈ms→T ((factsOf g).mul x m))→∀a∈made,T a)(a:Nat):a∈made↔a∈(factsOf g).derived l:=by
 obtain⟨h1,h2,h3⟩:=ki h (l:=l)
 have h0:0∈ms:=(sT 0).2 ⟨0,S.zero,0,S.zero,F9 h h.pos⟩
 have Ga: ∀m∈ms,m<g.n:=fun m hm=>eI m (tW m hm)
 constructor
 ·refine P2 (fun a=>a∈(factsOf g).derived l) (fun m hm=>?_) (fun x m _ hx hm=>?_) a
  ·exact h2 m ((oQ h).2 ⟨Ga m hm,.inr ((sT m).1 hm)⟩)
  ·exact h1.mul x hx m (h2 m ((oQ h).2 ⟨Ga m hm,.inr ((sT m).1 hm)⟩))
 ·intro ha
  have key: ∀a∈(factsOf g).derived l,∀r∈made,(factsOf g).mul r a∈made:=by
   refine h3 (fun a=>∀r∈made,(factsOf g).mul r a∈made) (fun a ha r hr=>?_) (fun x y hx hy hTx hTy r hr=>?_)
   ·rcases((oQ h).1 ha).2 with rfl|hc
    ·exact lO r hr 0 h0
    ·exact lO r hr a ((sT a).2 hc)
   ·rw[←C6 h (eI r hr) hx hy]
    exact hTy _ (hTx r hr)
  have h4:=key a ha 0 (tW 0 h0)
  rw[yj h (h1.canon.2 a ha)]at h4
  exact h4
theorem wm(go:List Nat→List Nat)(l:List Nat)(hl:go l=l): ∀k,again go k l=l:=by
 intro k
 cases k with
 |zero=>rfl
 |succ k=>unfold again;simp[hl]
theorem C7(go:List Nat→List Nat)(l:List Nat)(hl:go l≠l)(k:Nat):again go (k+1) l=again go k (go l):=by
 unfold again
 simp[hl]
 cases k<;>rfl
theorem zE:(factsOf g).derived [0]=[0]:=by
 have S:Sub g [0]:=⟨⟨by simp,fun a ha=>by rw[aQ]at ha;rw[ha];exact h.pos⟩,by simp,fun x hx y hy=>by
  rw[aQ]at hx hy⊢
  subst hx;subst hy
  exact yj h h.pos⟩
 obtain⟨h1,_,_⟩:=ki h (l:=[0])
 apply h1.canon.ext S.canon
 intro a
 refine⟨ua h S a,fun ha=>?_⟩
 rw[aQ]at ha
 rw[ha]
 exact h1.zero
end
end Sp
end
section
namespace L2
open PySem PySem.Spec PyProof.Rows
abbrev Key:=Sum Int Str
def Oi:Key→Value→Bool
 |.inl k,v=>Value.isInt k v
 |.inr x,v=>Value.isStrOf x v
def Xp(w:World):Key→Int
 |.inl k=>hashInt k
 |.inr x=>hashStr w x
theorem eV: ∀{k:Key}{v:Value},Oi k v=true→(∃i t,k=Sum.inl i∧v=Value.int i t)∨(∃x t,k=Sum.inr x∧v=Value.str x t)
 |.inl i,v,h=>by
  obtain⟨t,e⟩:=Value.isInt_shape (k:=i) (v:=v) h
  exact .inl ⟨i,t,rfl,e⟩
 |.inr x,v,h=>by
  obtain⟨t,e⟩:=Value.isStrOf_shape (x:=x) (v:=v) h
  exact .inr ⟨x,t,rfl,e⟩
theorem P4(a b:Int):decide ((Sum.inl a:Key)=Sum.inl b)=(a==b):=by
 by_cases e:a=b
 ·subst e;simp
 ·have h: ¬(Sum.inl a:Key)=Sum.inl b:=fun q=>e (Sum.inl.inj q)
  rw[decide_eq_false h]
  exact(cO.mpr e).symm
theorem P5(a b:Str):decide ((Sum.inr a:Key)=Sum.inr b)=decide (a=b):=by
 by_cases e:a=b
 ·subst e;simp
 ·have h: ¬(Sum.inr a:Key)=Sum.inr b:=fun q=>e (Sum.inr.inj q)
  rw[decide_eq_false h,decide_eq_false e]
theorem P6(a:Int)(b:Str):decide ((Sum.inl a:Key)=Sum.inr b)=false:=decide_eq_false (fun q=>nomatch q)
theorem P7(a:Str)(b:Int):decide ((Sum.inr a:Key)=Sum.inl b)=false:=decide_eq_false (fun q=>nomatch q)
def Et(prog:Program)(w:World):PySem.KeyKind prog w Key where
 is:=Oi
 hash:=Xp w
 inj:=fun v a b ha hb=>by
  rcases eV ha with⟨i,t,rfl,rfl⟩|⟨x,t,rfl,rfl⟩
  ·rcases eV hb with⟨j,u,rfl,e⟩|⟨y,u,rfl,e⟩
   ·injection e with e1 _;rw[e1]
   ·exact nomatch e
  ·rcases eV hb with⟨j,u,rfl,e⟩|⟨y,u,rfl,e⟩
   ·exact nomatch e
   ·injection e with e1 _;rw[e1]
 byValue:=fun k v h=>by
  rcases eV h with⟨i,t,rfl,rfl⟩|⟨x,t,rfl,rfl⟩<;>rfl
 pyHash:=fun hv h=>by
  rcases eV hv with⟨i,t,rfl,rfl⟩|⟨x,t,rfl,rfl⟩
  ·exact wpAny_pyHash_int h
  ·exact wpAny_pyHash_str h
 eqBool:=fun hu hv h=>by
  rcases eV hu with⟨i,t,rfl,rfl⟩|⟨x,t,rfl,rfl⟩
  ·rcases eV hv with⟨j,u,rfl,rfl⟩|⟨y,u,rfl,rfl⟩
   ·rw[P4]at h;exact wpAny_eqBool_int h
   ·rw[P6]at h;exact SeqAt.EqAt.int_str i t y u _ _ _ _ h
  ·rcases eV hv with⟨j,u,rfl,rfl⟩|⟨y,u,rfl,rfl⟩
   ·rw[P7]at h;exact SeqAt.EqAt.str_int x t j u _ _ _ _ h
   ·rw[P5]at h;exact wpAny_eqBool_str h
 «strs»:=fun k x t v h=>by
  rcases eV h with⟨i,u,rfl,e⟩|⟨y,u,rfl,e⟩
  ·exact nomatch e
  ·injection e with e1 _
   subst e1
   cases v<;>rfl
end L2
namespace L2
open PySem PySem.Spec PyProof.Rows
inductive V where
 |fC|bl (b:Bool)|int (i:Int)|str (x:Str)|Bp (b:Array UInt8)|To (b:UInt64)|ref (a:Addr)|ty (n:String)
 deriving DecidableEq
def RelV:V→Value→Prop
 |.fC,u=>u=Value.none
 |.bl b,u=>u=Value.bool b
 |.int i,u=>∃t,u=Value.int i t
 |.str x,u=>∃t,u=Value.str x t
 |.Bp b,u=>∃t,u=Value.bytes b t
 |.To b,u=>∃t,u=Value.float b t
 |.ref a,u=>u=Value.ref a
 |.ty n,u=>u=Value.type n
abbrev Vals:List V→List Value→Prop:=Paired RelV
theorem Vals.length{xs:List V}{us:List Value}(r:Vals xs us):xs.length=us.length:=Paired.length r
theorem Vals.get: ∀{xs:List V}{us:List Value}{i:Nat}{x:V},Vals xs us→xs[i]? =some x→∃u,us[i]? =some u∧RelV x u
 |_,_,_,_,.nil,e=>by simp at e
 |_,_,0,_,.cons r _,e=>by simp at e;subst e;exact⟨_,rfl,r⟩
 |_,_,i+1,x,.cons _ t,e=>by
  obtain⟨u,h1,h2⟩:=Vals.get (i:=i) (x:=x) t (by simpa using e)
  exact⟨u,by simpa using h1,h2⟩
theorem Vals.set{x:V}{u:Value}(r:RelV x u): ∀{xs:List V}{us:List Value}(i:Nat),Vals xs us→Vals (xs.set i x) (us.set i u)
 |_,_,_,.nil=>.nil
 |_,_,0,.cons _ t=>.cons r t
 |_,_,i+1,.cons q t=>.cons q (Vals.set r i t)
theorem Vals.append: ∀{xs ys:List V}{us ws:List Value},Vals xs us→Vals ys ws→Vals (xs++ys) (us++ws)
 |_,_,_,_,.nil,s=>s
 |_,_,_,_,.cons r t,s=>.cons r (Vals.append t s)
theorem Vals.take: ∀{xs:List V}{us:List Value}(n:Nat),Vals xs us→Vals (xs.take n) (us.take n)
 |_,_,0,_=>.nil
 |_,_,_+1,.nil=>.nil
 |_,_,n+1,.cons r t=>.cons r (Vals.take n t)
theorem Vals.drop: ∀{xs:List V}{us:List Value}(n:Nat),Vals xs us→Vals (xs.drop n) (us.drop n)
 |_,_,0,r=>r
 |_,_,_+1,.nil=>.nil
 |_,_,n+1,.cons _ t=>Vals.drop n t
def xP:Option V→Option Value→Prop
 |some v,some u=>RelV v u
 |none,none=>True
 |_,_=>False
def KV{κ:Type}:List (κ×V)→List (κ×Value)→Prop:=Paired fun(p:κ×V)(q:κ×Value)=>p.1=q.1∧RelV p.2 q.2
def kV:Key→V
 |.inl i=>.int i
 |.inr x=>.str x
inductive HO where
 |lst (xs:List V)
 |tup (xs:List V)
 |dK (zF:List (Key×V))|dT (zF:List (List Key×V))
 |set (S:Int→Bool) (n:Nat)
 |ins (C dx:Addr) (fs:List (Str×V))
 |own (x:Addr)
 |xd (fs:List (Str×V))
 |met (f x:Addr)
 |AH (lo hi:Int)
 |zG (o:Obj) (u:HO)
 |P8 (ps:Array Value)
 |ext (φ:Heap→Prop)
abbrev Hp:=Addr→Option HO
def upd(H:Hp)(a:Addr)(o:HO):Hp:=fun b=>if b=a then some o else H b
theorem au{H:Hp}{a:Addr}{o:HO}:upd H a o a=some o:=by unfold upd;rw[aO rfl]
theorem aE{H:Hp}{a b:Addr}{o:HO}(h:b≠a):upd H a o b=H b:=by unfold upd;rw[aI h]
theorem uL{H:Hp}{a:Addr}{o u:HO}:upd (upd H a o) a u=upd H a u:=by
 funext b;unfold upd;split<;>rfl
theorem ub{H:Hp}{a b:Addr}{o u:HO}(h:H a=some o)(h':H b=some u)(d:o≠u):a≠b:=by
 intro e;subst e;rw[h]at h';exact d (a7 h')
theorem aK{H:Hp}{a b:Addr}{o:HO}(h:H a=some o)(h':H b=none):a≠b:=by
 intro e;subst e;rw[h]at h';cases h'
section
variable(P:Program)(w:World)
def iD(H:Hp)(h:Heap)(a:Addr):HO→Prop
 |.lst xs=>xs.length≤sizeLine∧∃(cw:List Value)(n:Nat),Vals xs cw∧h.get? a=some {cls:=.type "list",data:=.seq cw.toArray n}
 |.tup xs=>xs.length≤sizeLine∧∃cw:List Value,Vals xs cw∧IsTup h a cw.toArray
 |.dK zF=>zF.length≤sizeLine∧(a==sysModules)=false∧∃vs,KV zF vs∧h.DictOf (Et P w) a vs
 |.dT zF=>zF.length≤sizeLine∧(a==sysModules)=false∧∃xs:List (List Key×Addr×Value),
   Paired (fun(p:List Key×V)(q:List Key×Addr×Value)=>p.1=q.1∧H q.2.1=some (.tup (p.1.map kV))∧RelV p.2 q.2.2) zF xs∧
   ∃o es ep,h.get? a=some o∧o.ExactDict∧o.data=.dict es ep∧es.toList=xs.map (entryOfKey (tupleKind (Et P w)))∧(xs.map (·.1)).Nodup
 |.set S n=>h.SetOf (intKind P w) a S n
 |.ins C dx fs=>H dx=some (.own a)∧fs.length≤1000∧dx≠a∧h.get? a=some (W.instObj C dx)∧
   ∃mA,h.Ns1 dx mA∧(∀f,xP (fs.lookup f) (mA f))∧PySem.Within mA (fs.map (·.1))
 |.own _=>∃o,h.get? a=some o
 |.xd fs=>∃mA,h.Ns1 a mA∧∀f,xP (fs.lookup f) (mA f)
 |.AH lo hi=>∃t u v,h.get? a=some {cls:=.type "range",data:=.fields #[.int lo t,.int hi u,.int 1 v]}
 |.zG o u=>h.get? a=some o∧iD H h a u
 |.P8 ps=>h.get? a=some {cls:=.none,data:=.fields ps}
 |.met f x=>h.get? a=some (W.methodObj (.ref f) (.ref x))
 |.ext φ=>φ h∧(∃o,h.get? a=some o)∧∀h1 h2:Heap,φ h1→(∀o,h1.get? a=some o→h2.get? a=some o)→φ h2
def rJ(H:Hp)(h:Heap):Prop:=∀a o,H a=some o→iD P w H h a o
end
section
variable{P:Program}{w:World}{H H':Hp}{h h':Heap}{a:Addr}{o:HO}
theorem iD.lt(x:iD P w H h a o):a<h.objs.size:=by
 cases o with
 |lst xs=>obtain⟨_,_,_,_,e⟩:=x;exact aS e
 |tup xs=>obtain⟨_,_,_,p⟩:=x;exact p.lt
 |dK zF=>obtain⟨_,_,_,_,o,_,_,e,_⟩:=x;exact aS e
 |dT zF=>obtain⟨_,_,_,_,o,_,_,e,_⟩:=x;exact aS e
 |set S n=>obtain⟨o,_,_,_,e,_⟩:=x;exact aS e
 |ins C dx fs=>obtain⟨_,_,_,e,_⟩:=x;exact aS e
 |own y=>obtain⟨_,e⟩:=x;exact aS e
 |xd fs=>obtain⟨_,⟨_,_,_,e,_⟩,_⟩:=x;exact aS e
 |AH lo hi=>obtain⟨_,_,_,e⟩:=x;exact aS e
 |zG ob u=>obtain⟨e,_⟩:=x;exact aS e
 |P8 ps=>exact aS (show h.get? a=some _ from x)
 |met f y=>exact aS (show h.get? a=some _ from x)
 |ext φ=>obtain⟨_,⟨_,e⟩,_⟩:=x;exact aS e
theorem Paired.Tp{α β:Type}{F G:α→β→Prop}: ∀{l₁:List α}{l₂:List β},Paired F l₁ l₂→(∀a b,F a b→G a b)→Paired G l₁ l₂
 |_,_,.nil,_=>.nil
 |_,_,.cons r t,f=>.cons (f _ _ r) (Paired.Tp t f)
theorem iD.C8(x:iD P w H h a o)(k: ∀b u,(b=a∨H b=some (.own a))→h.get? b=some u→h'.get? b=some u)
  (ho: ∀b,H b=some (.own a)→H' b=some (.own a))(ht: ∀b xs,H b=some (.tup xs)→H' b=some (.tup xs)):iD P w H' h' a o:=by
 induction o with
 |lst xs=>obtain⟨z,cw,n,r,e⟩:=x;exact⟨z,cw,n,r,k _ _ (.inl rfl) e⟩
 |tup xs=>obtain⟨z,cw,r,ob,e,c⟩:=x;exact⟨z,cw,r,ob,k _ _ (.inl rfl) e,c⟩
 |dK zF=>obtain⟨z,y,vs,r,ob,es,ep,e,c⟩:=x;exact⟨z,y,vs,r,ob,es,ep,k _ _ (.inl rfl) e,c⟩
 |dT zF=>
  obtain⟨z,y,xs,r,ob,es,ep,e,c⟩:=x
  exact⟨z,y,xs,Paired.Tp r fun p q z=>⟨z.1,ht _ _ z.2.1,z.2.2⟩,ob,es,ep,k _ _ (.inl rfl) e,c⟩
 |set S n=>obtain⟨ob,es,ep,t,e,c⟩:=x;exact⟨ob,es,ep,t,k _ _ (.inl rfl) e,c⟩
 |ins C dx fs=>
  obtain⟨d,z,ne,e,mA,⟨od,es,ep,e2,c⟩,r⟩:=x
  exact⟨ho _ d,z,ne,k _ _ (.inl rfl) e,mA,⟨od,es,ep,k _ _ (.inr d) e2,c⟩,r⟩
 |own y=>obtain⟨ob,e⟩:=x;exact⟨ob,k _ _ (.inl rfl) e⟩
 |xd fs=>obtain⟨mA,⟨od,es,ep,e,c⟩,r⟩:=x;exact⟨mA,⟨od,es,ep,k _ _ (.inl rfl) e,c⟩,r⟩
 |AH lo hi=>obtain⟨t,u,v,e⟩:=x;exact⟨t,u,v,k _ _ (.inl rfl) e⟩
 |zG ob u ih=>obtain⟨e,q⟩:=x;exact⟨k _ _ (.inl rfl) e,ih q⟩
 |P8 ps=>
  have e:h.get? a=some {cls:=.none,data:=.fields ps}:=x
  show h'.get? a=some {cls:=.none,data:=.fields ps}
  exact k a _ (.inl rfl) e
 |met f y=>
  have e:h.get? a=some (W.methodObj (.ref f) (.ref y)):=x
  show h'.get? a=some (W.methodObj (.ref f) (.ref y))
  exact k a _ (.inl rfl) e
 |ext φ=>obtain⟨p,⟨o,e⟩,st⟩:=x;exact⟨st _ _ p fun o q=>k _ _ (.inl rfl) q,⟨o,k _ _ (.inl rfl) e⟩,st⟩
theorem rJ.lt(x:rJ P w H h)(e:H a=some o):a<h.objs.size:=(x a o e).lt
theorem rJ.fresh(x:rJ P w H h)(e:h.objs.size≤a):H a=none:=by
 cases q:H a with
 |none=>rfl
 |some u=>exact absurd (bJ (x.lt q) e) (eh _)
theorem rJ.kept(x:rJ P w H h)(k: ∀b u,h.get? b=some u→h'.get? b=some u):rJ P w H h':=fun a o e=>
 (x a o e).C8 (fun b u _ q=>k b u q) (fun _ q=>q) fun _ _ q=>q
theorem rJ.laid(x:rJ P w H h)(k: ∀b u,h.get? b=some u→h'.get? b=some u)(hp:h.objs.size≤a)(new:iD P w (upd H a o) h' a o):rJ P w (upd H a o) h':=fun b u e=>by
 have hn:=x.fresh hp
 by_cases hb:b=a
 ·subst hb;rw[au]at e;cases e;exact new
 ·rw[aE hb]at e
  exact(x b u e).C8 (fun c v _ q=>k c v q) (fun c q=>by rw[aE (aK q hn)];exact q) fun c xs q=>by rw[aE (aK q hn)];exact q
end
def Rd(H:Hp)(a:Addr)(u:HO):Prop:=H a=some u∨∃o,H a=some (.zG o u)
theorem Rd.ok{P:Program}{w:World}{H:Hp}{h:Heap}{a:Addr}{u:HO}(r:Rd H a u)(x:rJ P w H h):iD P w H h a u:=by
 rcases r with r|⟨o,r⟩
 ·exact x a u r
 ·obtain⟨_,q⟩:=x a _ r
  exact q
def V3:Option HO→Prop
 |some (.lst _)=>True
 |some (.dK _)=>True
 |some (.dT _)=>True
 |some (.set _ _)=>True
 |some (.ins _ _ _)=>True
 |some (.ext _)=>True
 |_=>False
section
variable{P:Program}{w:World}{H:Hp}{h h':Heap}{x e:Addr}{o':HO}
theorem rJ.write(ok:rJ P w H h)(mu:V3 (H x))(he:e=x∨H e=some (.own x))(k: ∀b u,b≠e→h.get? b=some u→h'.get? b=some u)(R6: ∃u,h'.get? e=some u)
  (new:iD P w (upd H x o') h' x o'):rJ P w (upd H x o') h':=fun b u q=>by
 have Tq: ∀c y,H c=some (.own y)→c≠x:=fun c y r z=>by subst z;rw[r]at mu;exact mu
 have Xq: ∀c xs,H c=some (.tup xs)→c≠x:=fun c xs r z=>by subst z;rw[r]at mu;exact mu
 by_cases hb:b=x
 ·subst hb;rw[au]at q;cases q;exact new
 ·rw[aE hb]at q
  by_cases IP:b=e
  ·have q':H b=some (.own x):=by
    rcases he with z|z
    ·exact absurd (IP.trans z) hb
    ·rw[IP];exact z
   rw[q]at q';cases q'
   obtain⟨v,hv⟩:=R6
   exact⟨v,by rw[IP];exact hv⟩
  ·refine(ok b u q).C8 (fun c v hc r=>k c v ?_ r) (fun c r=>by rw[aE (Tq c b r)];exact r) fun c xs r=>by rw[aE (Xq c xs r)];exact r
   rcases hc with rfl|hc
   ·exact IP
   ·rintro rfl
    rcases he with z|z
    ·exact Tq c b hc z
    ·rw[hc]at z;cases z;exact hb rfl
end
structure Un(fs ex:List Addr)(H H':Hp)(h h':Heap):Prop where
 keep: ∀b o,h.get? b=some o→H b=none→b∉fs→b∉ex→h'.get? b=some o
 slot: ∀b o,h.get? b=some o→H b=none→b∈fs→b∉ex→∃sl,h'.get? b=some {o with slots:=sl}
 free: ∀b o,h.get? b=some o→H b=none→b∉ex→H' b=none
 there: ∀b o,h.get? b=some o→b∉ex→∃o',h'.get? b=some o'
 Bq: ∀b xs,H b=some (.tup xs)→H' b=some (.tup xs)
 zH: ∀b o u,H b=some (.zG o u)→H' b=some (.zG o u)
 Br: ∀b ps,H b=some (.P8 ps)→∃more,H' b=some (.P8 (ps++more))
section
variable{fs R7 ex ex':List Addr}{H H1 H2:Hp}{h h1 h2 h':Heap}{a x e:Addr}{o:HO}
theorem Un.any(u:Un fs ex H H1 h h1){b:Addr}{ob:Obj}(q:h.get? b=some ob)(n:H b=none)(hx:b∉ex): ∃sl,h1.get? b=some {ob with slots:=sl}:=by
 by_cases hb:b∈fs
 ·exact u.slot b ob q n hb hx
 ·exact⟨ob.slots,u.keep b ob q n hb hx⟩
theorem Un.kept(k: ∀b u,h.get? b=some u→h'.get? b=some u):Un fs ex H H h h':=
 ⟨fun b ob q _ _ _=>k b ob q,fun b ob q _ _ _=>⟨ob.slots,k b ob q⟩,fun _ _ _ n _=>n,fun b ob q _=>⟨ob,k b ob q⟩,fun _ _ q=>q,fun _ _ _ q=>q,fun _ ps q=>⟨#[],by rw[q];simp⟩⟩
theorem Un.refl:Un fs ex H H h h:=Un.kept fun _ _ q=>q
theorem Un.laid(k: ∀b u,h.get? b=some u→h'.get? b=some u)(hp:h.objs.size≤a)(hn:H a=none):Un fs ex H (upd H a o) h h' where
 keep:=fun b u q _ _ _=>k b u q
 slot:=fun b u q _ _ _=>⟨u.slots,k b u q⟩
 free:=fun b u q n _=>by rw[aE (br (bJ (aS q) hp))];exact n
 there:=fun b u q _=>⟨u,k b u q⟩
 Bq:=fun b xs q=>by rw[aE (aK q hn)];exact q
 zH:=fun b u xs q=>by rw[aE (aK q hn)];exact q
 Br:=fun b ps q=>⟨#[],by rw[aE (aK q hn),q];simp⟩
theorem Un.write(mu:V3 (H x))(he:e=x∨H e=some (.own x))(k: ∀b u,b≠e→h.get? b=some u→h'.get? b=some u)(R6: ∃u,h'.get? e=some u):Un fs ex H (upd H x o) h h':=by
 have hx: ∀b,H b=none→b≠x:=fun b n z=>by subst z;rw[n]at mu;exact mu
 have hb: ∀b,H b=none→b≠e:=fun b n z=>by
  subst z
  rcases he with r|r
  ·exact hx b n r
  ·rw[n]at r;cases r
 have hm: ∀b u,H b=some u→¬V3 (some u)→b≠x:=fun b u q nm z=>by subst z;rw[q]at mu;exact nm mu
 refine⟨fun b u q n _ _=>k b u (hb b n) q,fun b u q n _ _=>⟨u.slots,k b u (hb b n) q⟩,fun b u q n _=>by rw[aE (hx b n)];exact n,fun b u q _=>?_,
  fun b xs q=>by rw[aE (hm b _ q fun z=>z)];exact q,fun b u xs q=>by rw[aE (hm b _ q fun z=>z)];exact q,fun b ps q=>⟨#[],by rw[aE (hm b _ q fun z=>z),q];simp⟩⟩
 by_cases IP:b=e
 ·subst IP;exact R6
 ·exact⟨u,k b u IP q⟩
end
def V4(h:Heap)(H:Hp):List Addr:=(List.range h.objs.size).filter fun a=>(H a).isSome
def zI(h:Heap)(H:Hp):Heap:=W.hideAll h (V4 h H)
theorem Gb(h:Heap)(H:Hp):(zI h H).objs.size=h.objs.size:=W.hideAll_size _ _
theorem IQ{h:Heap}{H:Hp}{b:Addr}{o:Obj}(e:h.get? b=some o)(n:H b=none):(zI h H).get? b=some o:=
 W.hideAll_get _ e fun hm=>by
  have q:(H b).isSome=true:=(bg.mp hm).2
  rw[n]at q;simp at q
theorem Mf{h:Heap}{H:Hp}{b:Addr}{o:Obj}(e:(zI h H).get? b=some o):h.get? b=some o∧H b=none:=by
 have e':h.get? b=some o:=W.of_hideAll (V4 h H) e
 refine⟨e',?_⟩
 cases q:H b with
 |none=>rfl
 |some x=>
  have hm:b∈V4 h H:=bg.mpr ⟨aD.mpr (aS e'),by simp[q]⟩
  have z:(zI h H).get? b=none:=W.hideAll_none (V4 h H) hm
  rw[z]at e;cases e
end L2
namespace L2
open PySem PySem.Spec PyProof.Rows
structure Mod(K:W.Frag)(mg:Str→Option Value)(base:Heap):Prop where
 Tr:K.In base
 glob:base.Ns mainGlobals mg
 blt: ∃mb,base.Ns builtinsNs mb∧∀x:Str,x≠"__name__"→mb x=bootBuiltins x
 nolimit:base.NoLimit
structure Cx where
 prog:Program
 w:World
 K:W.Frag
 mg:Str→Option Value
 base:Heap
 A:Around
 N:List Str
 yk:Shared
 Ts:Hp
 env:Env
 outer:List Env
 stack:List Env
 ex:List Addr
 fn:Str→Bool
 calm:Bool
 pn:List (Addr×Obj)
 xe:Value→Shared→Prop
def IS(l:List Env):List Addr:=l.filterMap (·.frame)
abbrev Cx.fs(X:Cx):List Addr:=IS X.outer
def R8(sc:Scope)(x:Str):Prop:=sc.names.lookup x=some .local∨sc.names.lookup x=some .cell∨sc.names.lookup x=some .free
def Loc(sc:Scope)(x:Str):Prop:=sc.names.lookup x=some .local∨sc.names.lookup x=some .cell
def Look(env:Env)(h:Heap)(m:Str→Option Value)(x:Str)(u:Value):Prop:=
 (env.kindOf x=some .local∧m x=some u)∨((env.kindOf x=some .cell∨env.kindOf x=some .free)∧∃c,env.cells.lookup x=some c∧h.IsCell c (some u))
structure Cx.Ok(X:Cx):Prop where
 mod:Mod X.K X.mg X.base
 kind:X.env.scope.kind=.function
 glob:X.env.globals=mainGlobals
 blt:X.env.builtins=builtinsNs
 above:X.yk.heap.objs.size≤X.env.locals
 inj: ∀x y c,X.env.cells.lookup x=some c→X.env.cells.lookup y=some c→x=y
 has: ∀x,(X.env.kindOf x=some .cell∨X.env.kindOf x=some .free)→∃c,X.env.cells.lookup x=some c
 Tu: ∀x c,X.fn x=true→X.env.cells.lookup x=some c→X.yk.heap.objs.size≤c
 hd:X.calm=true→X.A.handled=none
 frames:X.A.frames=some X.stack
 V5:X.stack=X.outer∨(X.stack=X.env::X.outer∧X.env.frame=some X.env.locals)
 V6: ∀b∈X.ex,b≠X.env.locals∧∀x c,X.env.cells.lookup x=some c→c≠b
 bs: ∀b o,X.base.get? b=some o→X.yk.heap.get? b=some o∧X.Ts b=none
 Lr:X.base.objs.size≤X.yk.heap.objs.size
 IT: ∀b o,X.base.get? b=some o→b∉X.ex
 IU: ∀b∈X.ex,b∉X.fs
 uq:X.yk.heap.FunFrames X.base X.outer
 P9: ∀b∈X.fs,X.Ts b=none
structure Inv(X:Cx)(pins:List (Addr×Obj))(σ:List (Option V))(H:Hp)(s:Shared):Prop where
 ok:X.Ok
 os:s.os=X.yk.os
 bare:AllBare s.gens
 base:Un X.fs X.ex X.Ts H X.yk.heap s.heap
 loc: ∃m,s.heap.Ns X.env.locals m∧∀(i:Nat)(x:Str)(v:V),X.N[i]? =some x→σ[i]? =some (some v)→R8 X.env.scope x→∃u,RelV v u∧Look X.env s.heap m x u
 cell: ∀x c,X.env.cells.lookup x=some c→∃v,s.heap.IsCell c v
 free:H X.env.locals=none
 n8: ∀x c,X.env.cells.lookup x=some c→H c=none
 pin: ∀p∈X.pn++pins,s.heap.get? p.1=some p.2∧H p.1=none∧p.1≠X.env.locals∧p.1∉X.fs∧∀v,p.2.data≠ .cell v
 eZ:rJ X.prog X.w H s.heap
 len:σ.length=X.N.length
section
variable{X:Cx}{pins:List (Addr×Obj)}{σ:List (Option V)}{H H':Hp}{s:Shared}{h':Heap}
theorem Cx.Ok.Xr(ok:X.Ok){b:Addr}{o:Obj}(e:X.base.get? b=some o):b∉X.fs:=fun hb=>by
 have:=(ok.uq.mem hb).1
 rw[e]at this;cases this
theorem Inv.bs(I:Inv X pins σ H s): ∀b o,X.base.get? b=some o→s.heap.get? b=some o∧H b=none:=fun b o e=>
 ⟨I.base.keep b o (I.ok.bs b o e).1 (I.ok.bs b o e).2 (I.ok.Xr e) (I.ok.IT b o e),I.base.free b o (I.ok.bs b o e).1 (I.ok.bs b o e).2 (I.ok.IT b o e)⟩
theorem Inv.bk(I:Inv X pins σ H s): ∀b o,X.base.get? b=some o→s.heap.get? b=some o:=fun b o e=>(I.bs b o e).1
theorem Inv.mod(I:Inv X pins σ H s):Mod X.K X.mg X.base:=I.ok.mod
theorem Inv.Ck(I:Inv X pins σ H s):X.K.In s.heap:=I.ok.mod.Tr.keeps I.bk
theorem Inv.fr(I:Inv X pins σ H s): ∃m,Fr X.base X.env.locals s.heap m:=
 let ⟨m,hn,_⟩:=I.loc
 ⟨m,hn,I.bk,bW I.ok.Lr I.ok.above⟩
theorem Inv.lt(I:Inv X pins σ H s):X.env.locals<s.heap.objs.size:=let ⟨_,hn,_⟩:=I.loc;hn.lt
theorem Inv.sz(I:Inv X pins σ H s):X.yk.heap.objs.size≤s.heap.objs.size:=bW I.ok.above (uE I.lt)
theorem Inv.Xs(I:Inv X pins σ H s){a:Addr}(h:s.heap.objs.size≤a):a∉X.fs:=fun hb=>by
 obtain⟨_,o,ho,_⟩:=I.ok.uq.mem hb
 exact absurd (bJ (aS ho) (bW I.sz h)) (eh _)
theorem Inv.Qa(I:Inv X pins σ H s): ∀x c,X.env.cells.lookup x=some c→c≠X.env.locals:=fun x c e z=>by
 obtain⟨v,o,ho,hd⟩:=I.cell x c e
 obtain⟨m,⟨o',es,ep,zJ,Ll,_⟩,_⟩:=I.loc
 rw[z,zJ]at ho;cases ho;rw[Ll]at hd;cases hd
theorem Inv.uq(I:Inv X pins σ H s):s.heap.FunFrames X.base X.outer:=by
 have all: ∀(l:List Env),(∀b∈IS l,b∈X.fs)→X.yk.heap.FunFrames X.base l→s.heap.FunFrames X.base l:=by
  intro l
  induction l with
  |nil=>intro _ _;trivial
  |cons env r ih=>
   intro hs hl
   obtain⟨hk,⟨L,o,hf,hn,ho,hd⟩,hr⟩:=hl
   have hL:L∈X.fs:=hs L (by unfold IS;rw[oz,hf];exact cv)
   obtain⟨sl,e⟩:=I.base.slot L o ho (I.ok.P9 L hL) hL fun z=>I.ok.IU L z hL
   exact⟨hk,⟨L,_,hf,hn,e,hd⟩,ih (fun b hb=>hs b (by unfold IS;rw[oz,hf];exact bu _ hb)) hr⟩
 exact all X.outer (fun _ hb=>hb) I.ok.uq
theorem Inv.stack(I:Inv X pins σ H s):s.heap.FunFrames X.base X.stack:=by
 rcases I.ok.V5 with e|⟨e,hf⟩
 ·rw[e];exact I.uq
 ·rw[e]
  obtain⟨m,hn,_⟩:=I.loc
  refine .cons (by rw[I.ok.kind];decide) hf hn ?_ I.uq
  exact Heap.get?_none_of_le (bW I.ok.Lr I.ok.above)
theorem Inv.C9(I:Inv X pins σ H s): ∀b∈IS X.stack,b∈X.env.locals::X.fs:=fun b hb=>by
 rcases I.ok.V5 with e|⟨e,hf⟩
 ·rw[e]at hb;exact bu _ hb
 ·rw[e]at hb
  unfold IS at hb
  rw[oz,hf]at hb
  exact hb
theorem Inv.Eu(I:Inv X pins σ H s): ∀b∈IS X.stack,H b=none:=fun b hb=>by
 rcases aH.mp (I.C9 b hb)with e|hb
 ·rw[e];exact I.free
 ·obtain⟨_,o,ho,_⟩:=I.ok.uq.mem hb
  exact I.base.free b o ho (I.ok.P9 b hb) fun z=>I.ok.IU b z hb
theorem Inv.step{g':Array GenState}{t':Nat}{d':Drawn}{ch:List Addr}(I:Inv X pins σ H s)
  (Hu: ∀b∈ch,(b∈X.ex∨X.yk.heap.objs.size≤b)∧b≠X.env.locals∧(∀x c,X.env.cells.lookup x=some c→c≠b)∧∀p∈X.pn++pins,p.1≠b)
  (keep: ∀b o,b≠X.env.locals→b∉X.fs→b∉ch→s.heap.get? b=some o→H b=none→h'.get? b=some o)
  (slot: ∀b o,b≠X.env.locals→b∈X.fs→b∉ch→s.heap.get? b=some o→H b=none→∃sl,h'.get? b=some {o with slots:=sl})(free: ∀b o,b∉ch→s.heap.get? b=some o→H b=none→H' b=none)
  (there: ∀b o,b∉ch→s.heap.get? b=some o→∃o',h'.get? b=some o')
  (Bq: ∀b xs,H b=some (.tup xs)→H' b=some (.tup xs))(zH: ∀b o u,H b=some (.zG o u)→H' b=some (.zG o u))(Br: ∀b ps,H b=some (.P8 ps)→∃more,H' b=some (.P8 (ps++more)))
  (ns: ∀m,s.heap.Ns X.env.locals m→h'.Ns X.env.locals m)(eZ:rJ X.prog X.w H' h')(hg:AllBare g'):
  Inv X pins σ H' {s with heap:=h',gens:=g',drawn:=d',toks:=t'}:=by
 have neL: ∀b o,X.yk.heap.get? b=some o→b≠X.env.locals:=fun b o e=>br (bJ (aS e) I.ok.above)
 have V7: ∀b o,X.yk.heap.get? b=some o→b∉X.ex→b∉ch:=fun b o e hx hb=>by
  rcases(Hu b hb).1 with z|z
  ·exact hx z
  ·exact absurd (bJ (aS e) z) (eh _)
 have cellK: ∀x c,X.env.cells.lookup x=some c→∀v,s.heap.IsCell c v→h'.IsCell c v:=fun x c e v⟨o,ho,hd⟩=>by
  have Tv:c∉ch:=fun z=>(Hu c z).2.2.1 x c e rfl
  by_cases hc:c∈X.fs
  ·obtain⟨sl,q⟩:=slot c o (I.Qa x c e) hc Tv ho (I.n8 x c e)
   exact⟨_,q,hd⟩
  ·exact⟨o,keep c o (I.Qa x c e) hc Tv ho (I.n8 x c e),hd⟩
 refine⟨I.ok,I.os,hg,⟨fun b o e n hb hx=>?_,fun b o e n hb hx=>?_,fun b o e n hx=>?_,fun b o e hx=>?_,fun b xs e=>Bq b xs (I.base.Bq b xs e),fun b o xs e=>zH b o xs (I.base.zH b o xs e),fun b ps e=>?_⟩,?_,fun x c e=>?_,?_,fun x c e=>?_,fun p hp=>?_,eZ,I.len⟩
 ·exact keep b o (neL b o e) hb (V7 b o e hx) (I.base.keep b o e n hb hx) (I.base.free b o e n hx)
 ·obtain⟨sl,e1⟩:=I.base.slot b o e n hb hx
  obtain⟨sl',e2⟩:=slot b _ (neL b o e) hb (V7 b o e hx) e1 (I.base.free b o e n hx)
  exact⟨sl',e2⟩
 ·obtain⟨o',e1⟩:=I.base.there b o e hx
  exact free b o' (V7 b o e hx) e1 (I.base.free b o e n hx)
 ·obtain⟨o',e1⟩:=I.base.there b o e hx
  exact there b o' (V7 b o e hx) e1
 ·obtain⟨m1,e1⟩:=I.base.Br b ps e
  obtain⟨m2,e2⟩:=Br b _ e1
  exact⟨m1++m2,by rw[e2,Array.append_assoc]⟩
 ·obtain⟨m,hn,hl⟩:=I.loc
  refine⟨m,ns m hn,fun i x v e1 e2 e3=>?_⟩
  obtain⟨u,r,l⟩:=hl i x v e1 e2 e3
  refine⟨u,r,?_⟩
  rcases l with l|⟨k,c,e,z⟩
  ·exact .inl l
  ·exact .inr ⟨k,c,e,cellK x c e _ z⟩
 ·obtain⟨v,z⟩:=I.cell x c e
  exact⟨v,cellK x c e v z⟩
 ·obtain⟨m,⟨o,_,_,ho,_⟩,_⟩:=I.loc
  exact free _ o (fun z=>(Hu _ z).2.1 rfl) ho I.free
 ·obtain⟨v,o,ho,hd⟩:=I.cell x c e
  exact free c o (fun z=>(Hu c z).2.2.1 x c e rfl) ho (I.n8 x c e)
 ·obtain⟨e,n,ne,nf,d⟩:=I.pin p hp
  have Tv:p.1∉ch:=fun z=>(Hu p.1 z).2.2.2 p hp rfl
  exact⟨keep p.1 p.2 ne nf Tv e n,free p.1 p.2 Tv e n,ne,nf,d⟩
theorem Inv.un{t':Nat}(I:Inv X pins σ H s)(u:Un X.fs [] H H' s.heap h')(eZ:rJ X.prog X.w H' h'):Inv X pins σ H' {s with heap:=h',toks:=t'}:=by
 obtain⟨m,⟨o,es,ep,ho,r⟩,_⟩:=id I.loc
 obtain⟨sl,hL⟩:=u.any ho I.free (by simp)
 exact I.step (g':=s.gens) (d':=s.drawn) (ch:=[]) (fun _ z=>nomatch z) (fun b o _ hb _ e n=>u.keep b o e n hb (by simp)) (fun b o _ hb _ e n=>u.slot b o e n hb (by simp)) (fun b o _ e n=>u.free b o e n (by simp)) (fun b o _ e=>u.there b o e (by simp)) u.Bq u.zH u.Br (fun m' hm=>by
  obtain⟨o',nZ,Xt,zJ,r'⟩:=hm
  rw[ho]at zJ;cases zJ
  exact⟨_,nZ,Xt,hL,r'⟩) eZ I.bare
theorem Inv.call{g':Array GenState}{t':Nat}{d':Drawn}{ch:List Addr}(I:Inv X pins σ H s)(u:Un (IS X.stack) ch H H' s.heap h')(eZ:rJ X.prog X.w H' h')(hg:AllBare g')
  (Hu: ∀b∈ch,(b∈X.ex∨X.yk.heap.objs.size≤b)∧b≠X.env.locals∧(∀x c,X.env.cells.lookup x=some c→c≠b)∧∀p∈X.pn++pins,p.1≠b):
  Inv X pins σ H' {s with heap:=h',gens:=g',drawn:=d',toks:=t'}:=by
 obtain⟨m,⟨o,es,ep,ho,r⟩,_⟩:=id I.loc
 obtain⟨sl,hL⟩:=u.any ho I.free fun z=>(Hu _ z).2.1 rfl
 exact I.step (ch:=ch) Hu (fun b o hL hb hc e n=>u.keep b o e n (fun z=>(aH.mp (I.C9 b z)).elim hL hb) hc) (fun b o _ _ hc e n=>u.any e n hc) (fun b o hc e n=>u.free b o e n hc) (fun b o hc e=>u.there b o e hc) u.Bq u.zH u.Br (fun m' hm=>by
  obtain⟨o',nZ,Xt,zJ,r'⟩:=hm
  rw[ho]at zJ;cases zJ
  exact⟨_,nZ,Xt,hL,r'⟩) eZ hg
theorem Inv.turned{t':Nat}{it:Addr}(I:Inv X pins σ H s)(k: ∀b o,b≠it→s.heap.get? b=some o→h'.get? b=some o)(hn:H it=none)(hL:it≠X.env.locals)
  (h1:it∈X.ex∨X.yk.heap.objs.size≤it)(h2: ∀x c,X.env.cells.lookup x=some c→c≠it)(h3: ∀p∈X.pn++pins,p.1≠it):Inv X pins σ H {s with heap:=h',toks:=t'}:=by
 have Oj: ∀b u,H b=some u→b≠it:=fun b u e z=>by rw[z,hn]at e;cases e
 refine I.step (g':=s.gens) (d':=s.drawn) (ch:=[it]) (fun b hb=>?_) (fun b o _ _ hc e _=>k b o (fun z=>hc (by simp[z])) e) (fun b o _ _ hc e _=>⟨o.slots,k b o (fun z=>hc (by simp[z])) e⟩) (fun _ _ _ _ n=>n)
  (fun b o hc e=>⟨o,k b o (fun z=>hc (by simp[z])) e⟩) (fun _ _ e=>e) (fun _ _ _ e=>e) (fun b ps e=>⟨#[],by rw[e];simp⟩) (fun m hm=>?_) (fun b u e=>?_) I.bare
 ·have e:b=it:=by simpa using hb
  subst e
  exact⟨h1,hL,h2,h3⟩
 ·obtain⟨o,es,ep,ho,r⟩:=hm
  exact⟨o,es,ep,k _ o (iM hL) ho,r⟩
 ·refine(I.eZ b u e).C8 (fun c v hc q=>k c v ?_ q) (fun _ q=>q) fun _ _ q=>q
  rcases hc with z|z
  ·rw[z];exact Oj b u e
  ·exact Oj c _ z
theorem Inv.tok(I:Inv X pins σ H s)(t:Nat):Inv X pins σ H {s with toks:=t}:=I.un (h':=s.heap) (t':=t) Un.refl I.eZ
theorem Inv.kept{t':Nat}(I:Inv X pins σ H s)(k: ∀b u,s.heap.get? b=some u→h'.get? b=some u):Inv X pins σ H {s with heap:=h',toks:=t'}:=I.un (Un.kept k) (I.eZ.kept k)
theorem Inv.laid{a:Addr}{o:HO}{t':Nat}(I:Inv X pins σ H s)(k: ∀b u,s.heap.get? b=some u→h'.get? b=some u)(hp:s.heap.objs.size≤a)(new:iD X.prog X.w (upd H a o) h' a o):
  Inv X pins σ (upd H a o) {s with heap:=h',toks:=t'}:=I.un (Un.laid k hp (I.eZ.fresh hp)) (I.eZ.laid k hp new)
theorem Inv.write{x e:Addr}{o:HO}{t':Nat}(I:Inv X pins σ H s)(mu:V3 (H x))(he:e=x∨H e=some (.own x))(k: ∀b u,b≠e→s.heap.get? b=some u→h'.get? b=some u)(R6: ∃u,h'.get? e=some u)
  (new:iD X.prog X.w (upd H x o) h' x o):Inv X pins σ (upd H x o) {s with heap:=h',toks:=t'}:=I.un (Un.write mu he k R6) (I.eZ.write mu he k R6 new)
theorem Inv.weak{σ':List (Option V)}(I:Inv X pins σ H s)(hl:σ'.length=σ.length)(w: ∀(i:Nat) v,σ'[i]? =some (some v)→σ[i]? =some (some v)):Inv X pins σ' H s:=
 ⟨I.ok,I.os,I.bare,I.base,let ⟨m,hn,Xu⟩:=I.loc;⟨m,hn,fun i x v e1 e2 e3=>Xu i x v e1 (w i v e2) e3⟩,I.cell,I.free,I.n8,I.pin,I.eZ,hl.trans I.len⟩
theorem Inv.Ew{Ol:List (Addr×Obj)}(I:Inv X pins σ H s)(h: ∀p∈Ol,s.heap.get? p.1=some p.2∧H p.1=none∧p.1≠X.env.locals∧p.1∉X.fs∧∀v,p.2.data≠ .cell v):Inv X Ol σ H s:=
 ⟨I.ok,I.os,I.bare,I.base,I.loc,I.cell,I.free,I.n8,fun p hp=>(bP.mp hp).elim (fun z=>I.pin p (fV _ z)) (h p),I.eZ,I.len⟩
theorem wo{N:List Str}(hN:N.Nodup){i j:Nat}{x:Str}(a:N[i]? =some x)(b:N[j]? =some x):i=j:=by
 obtain⟨h1,e1⟩:=aJ.mp a
 obtain⟨h2,e2⟩:=aJ.mp b
 exact(mG hN).mp (e1.trans e2.symm)
theorem ym{M:Model}{A:Around}{E:Value→Shared→Prop}{i:Nat}{x:Str}{v:V}{u:Value}{Q:Unit→Shared→Prop}(I:Inv X pins σ H s)(hN:X.N.Nodup)(hi:X.N[i]? =some x)(hx:Loc X.env.scope x)(r:RelV v u)
  (h: ∀s',Inv X pins (σ.set i (some v)) H s'→(∃a,Heap.SameBut a s.heap s'.heap∧(a=X.env.locals∨X.env.cells.lookup x=some a))→Q () s')(hf:X.fn x=true∨X.env.scope.names.lookup x=some .local:=by first|exact .inl rfl|exact .inr rfl|assumption):wpAny M A (storeName X.env x u) Q E s:=by
 obtain⟨m,hn,hl⟩:=id I.loc
 have Xv:(X.env.scope.kind==.class||(X.env.scope.kind==.module&&X.env.locals !=X.env.globals))=false:=by rw[I.ok.kind];rfl
 have Tw:i<σ.length:=by rw[I.len];exact(aJ.mp hi).1
 have Qa:=I.Qa
 have tracked: ∀{a:Addr}{h':Heap},(∃o,s.heap.get? a=some o∧H a=none)→Heap.SameBut a s.heap h'→rJ X.prog X.w H h':=fun{a h'} ha hs b ob e=>by
  obtain⟨_,_,yn⟩:=ha
  refine(I.eZ b ob e).C8 (fun c w' hc q=>(hs.2 c ?_).trans q) (fun _ q=>q) fun _ _ q=>q
  rintro rfl
  rcases hc with rfl|hc
  ·rw[yn]at e;cases e
  ·rw[yn]at hc;cases hc
 rcases hx with hk|hk
 ·refine wpAny_storeName_local hk hn (fun h' IV hs=>?_) Xv
  obtain⟨oL,_,_,Om,_⟩:=id hn
  refine h _ ⟨I.ok,I.os,I.bare,⟨fun b o e n hb hx=>?_,fun b o e n hb hx=>?_,I.base.free,fun b o e hx=>?_,I.base.Bq,I.base.zH,I.base.Br⟩,⟨_,IV,fun j y v' e1 e2 e3=>?_⟩,fun y c e=>?_,I.free,I.n8,fun p hp=>?_,tracked ⟨oL,Om,I.free⟩ hs,by simpa using I.len⟩ ⟨_,hs,.inl rfl⟩
  ·exact(hs.2 b (br (bJ (aS e) I.ok.above))).trans (I.base.keep b o e n hb hx)
  ·obtain⟨sl,e1⟩:=I.base.slot b o e n hb hx
   exact⟨sl,(hs.2 b (br (bJ (aS e) I.ok.above))).trans e1⟩
  ·obtain⟨o',e1⟩:=I.base.there b o e hx
   exact⟨o',(hs.2 b (br (bJ (aS e) I.ok.above))).trans e1⟩
  ·by_cases hj:j=i
   ·subst hj
    rw[hi]at e1;cases e1
    rw[k8 Tw]at e2
    cases e2
    exact⟨u,r,.inl ⟨hk,by simp⟩⟩
   ·rw[nH (iM hj)]at e2
    obtain⟨u',r',q⟩:=hl j y v' e1 e2 e3
    refine⟨u',r',?_⟩
    rcases q with⟨k,e⟩|⟨k,c,e,z⟩
    ·refine .inl ⟨k,?_⟩
     have:y≠x:=fun e=>hj (wo hN e1 (e▸hi))
     simp[this,e]
    ·exact .inr ⟨k,c,e,z.sameBut hs (Qa y c e)⟩
  ·obtain⟨w',z⟩:=I.cell y c e
   exact⟨w',z.sameBut hs (Qa y c e)⟩
  ·obtain⟨e,n,ne,nf,d⟩:=I.pin p hp
   exact⟨(hs.2 p.1 ne).trans e,n,ne,nf,d⟩
 ·have Xw:X.fn x=true:=by
   rcases hf with z|z
   ·exact z
   ·rw[z]at hk;cases hk
  obtain⟨c,hc⟩:=I.ok.has x (.inl hk)
  obtain⟨w',z⟩:=I.cell x c hc
  refine wpAny_storeName_cell I.ok.kind hk hc z (fun h' qL hs=>?_)
  obtain⟨oc,hoc,Xx⟩:=id z
  refine h {s with heap:=h'} ⟨I.ok,I.os,I.bare,⟨fun b o e n hb hx=>?_,fun b o e n hb hx=>?_,I.base.free,fun b o e hx=>?_,I.base.Bq,I.base.zH,I.base.Br⟩,⟨m,hn.sameBut hs (iM (Qa x c hc)),fun j y v' e1 e2 e3=>?_⟩,fun y c' e=>?_,I.free,I.n8,fun p hp=>?_,tracked ⟨oc,hoc,I.n8 x c hc⟩ hs,by simpa using I.len⟩ ⟨c,hs,.inr hc⟩
  ·exact(hs.2 b (br (bJ (aS e) (I.ok.Tu x c Xw hc)))).trans (I.base.keep b o e n hb hx)
  ·obtain⟨sl,e1⟩:=I.base.slot b o e n hb hx
   exact⟨sl,(hs.2 b (br (bJ (aS e) (I.ok.Tu x c Xw hc)))).trans e1⟩
  ·obtain⟨o',e1⟩:=I.base.there b o e hx
   exact⟨o',(hs.2 b (br (bJ (aS e) (I.ok.Tu x c Xw hc)))).trans e1⟩
  ·by_cases hj:j=i
   ·subst hj
    rw[hi]at e1;cases e1
    rw[k8 Tw]at e2
    cases e2
    exact⟨u,r,.inr ⟨.inl hk,c,hc,qL⟩⟩
   ·rw[nH (iM hj)]at e2
    obtain⟨u',r',q⟩:=hl j y v' e1 e2 e3
    refine⟨u',r',?_⟩
    rcases q with q|⟨k,c',e,z'⟩
    ·exact .inl q
    ·refine .inr ⟨k,c',e,z'.sameBut hs ?_⟩
     rintro rfl
     exact hj (wo hN e1 (I.ok.inj _ _ _ e hc▸hi))
  ·by_cases IW:c'=c
   ·subst IW;exact⟨_,qL⟩
   ·obtain⟨w2,z2⟩:=I.cell y c' e
    exact⟨w2,z2.sameBut hs IW⟩
  ·obtain⟨e,n,ne,nf,d⟩:=I.pin p hp
   refine⟨(hs.2 p.1 ?_).trans e,n,ne,nf,d⟩
   intro q
   rw[q,hoc]at e
   have q':oc=p.2:=a7 e
   exact d w' (by rw[←q'];exact Xx)
theorem wq{M:Model}{A:Around}{E:Value→Shared→Prop}{i:Nat}{x:Str}{v:V}{u:Value}{Q:Unit→Shared→Prop}(I:Inv X pins σ H s)(hN:X.N.Nodup)(hi:X.N[i]? =some x)(hx:Loc X.env.scope x)(r:RelV v u)
  (h: ∀s',Inv X pins (σ.set i (some v)) H s'→Q () s')(hf:X.fn x=true∨X.env.scope.names.lookup x=some .local:=by first|exact .inl rfl|exact .inr rfl|assumption):wpAny M A (storeName X.env x u) Q E s:=
 ym I hN hi hx r (fun s' I' _=>h s' I') hf
theorem Inv.Tx{s':Shared}{ch:List Addr}(I:Inv X pins σ H s)(ho:s'.os=s.os)(u:Un (IS X.stack) ch H H' s.heap s'.heap)(eZ:rJ X.prog X.w H' s'.heap)(hg:AllBare s'.gens)
  (Hu: ∀b∈ch,(b∈X.ex∨X.yk.heap.objs.size≤b)∧b≠X.env.locals∧(∀x c,X.env.cells.lookup x=some c→c≠b)∧∀p∈X.pn++pins,p.1≠b):Inv X pins σ H' s':=by
 obtain⟨h',g',d',t',o'⟩:=s'
 have e:o'=s.os:=ho
 subst e
 exact I.call (g':=g') (t':=t') (d':=d') u eZ hg Hu
end
abbrev XK:=Value→Option Addr→Hp→Prop
abbrev St:=List (Option V)
abbrev VK:=V→Hp→Prop
abbrev TE:=St→Hp→VK→Prop
abbrev TT:=St→Hp→(Bool→Hp→Prop)→Prop
abbrev TA:=St→Hp→(List V→Hp→Prop)→Prop
structure Ends where
 nx:St→Hp→Prop
 rt:VK
 bk:St→Hp→Prop:=fun _ _=>False
 ct:St→Hp→Prop:=fun _ _=>False
abbrev TS:=Ends→St→Hp→Prop
def EP(X:Cx)(pins:List (Addr×Obj))(σ:St)(Q:VK)(u:Value)(s':Shared):Prop:=∃v H',Inv X pins σ H' s'∧RelV v u∧Q v H'
def TP(X:Cx)(pins:List (Addr×Obj))(σ:St)(Q:Bool→Hp→Prop)(b:Bool)(s':Shared):Prop:=∃H',Inv X pins σ H' s'∧Q b H'
def AP(X:Cx)(pins:List (Addr×Obj))(σ:St)(Q:List V→Hp→Prop)(us:List Value)(s':Shared):Prop:=∃vs H',Inv X pins σ H' s'∧Vals vs us∧Q vs H'
def SP(X:Cx)(pins:List (Addr×Obj))(D:Ends)(f:Flow)(s':Shared):Prop:=
 match f with
 |.next=>∃σ' H',Inv X pins σ' H' s'∧D.nx σ' H'
 |.brk=>∃σ' H',Inv X pins σ' H' s'∧D.bk σ' H'
 |.cont=>∃σ' H',Inv X pins σ' H' s'∧D.ct σ' H'
 |.ret u=>∃v σ' H',Inv X pins σ' H' s'∧RelV v u∧D.rt v H'
def PE(X:Cx)(e:Expr)(t:TE):Prop:=
 ∀(pins:List (Addr×Obj))(s:Shared)(σ:St)(H:Hp)(Q:VK),Inv X pins σ H s→t σ H Q→wpAny (model X.prog X.w) X.A (eval e X.env) (EP X pins σ Q) X.xe s
def PT(X:Cx)(e:Expr)(t:TT):Prop:=
 ∀(pins:List (Addr×Obj))(s:Shared)(σ:St)(H:Hp)(Q:Bool→Hp→Prop),Inv X pins σ H s→t σ H Q→wpAny (model X.prog X.w) X.A (isTrue e X.env (eval e X.env)) (TP X pins σ Q) X.xe s
def PW(X:Cx)(e:Expr)(t:TT):Prop:=
 ∀(whole:Sem Value)(pins:List (Addr×Obj))(s:Shared)(σ:St)(H:Hp)(Q:Bool→Hp→Prop),Inv X pins σ H s→t σ H Q→wpAny (model X.prog X.w) X.A (isTrue e X.env whole) (TP X pins σ Q) X.xe s
theorem PW.pt{X:Cx}{e:Expr}{t:TT}(h:PW X e t):PT X e t:=h _
def PA(X:Cx)(es:List Expr)(t:TA):Prop:=
 ∀(pos:Pos)(pins:List (Addr×Obj))(s:Shared)(σ:St)(H:Hp)(Q:List V→Hp→Prop),Inv X pins σ H s→t σ H Q→wpAny (model X.prog X.w) X.A (spliced (backTo pos (starEach es X.env))) (AP X pins σ Q) X.xe s
def PS(X:Cx)(st:Stmt)(t:TS):Prop:=
 ∀(pins:List (Addr×Obj))(s:Shared)(σ:St)(H:Hp)(D:Ends),Inv X pins σ H s→t D σ H→wpAny (model X.prog X.w) X.A (exec st X.env) (SP X pins D) X.xe s
def Ge(X:Cx)(st:List Stmt)(t:TS):Prop:=
 ∀(pins:List (Addr×Obj))(s:Shared)(σ:St)(H:Hp)(D:Ends),Inv X pins σ H s→t D σ H→wpAny (model X.prog X.w) X.A (execs st X.env) (SP X pins D) X.xe s
theorem eQ{α:Type}{t:Sem α}{Q Q':α→Shared→Prop}{M:Model}{A:Around}{E:Value→Shared→Prop}{s:Shared}(h:wpAny M A t Q E s)(hQ: ∀a s,Q a s→Q' a s):wpAny M A t Q' E s:=i5 h hQ fun _ _ x=>x
end L2
namespace L2
open PySem PySem.Spec PyProof.Rows
section
variable{X:Cx}
theorem bin{a b:Expr}{ta tb:TE}(ha:PE X a ta)(hb:PE X b tb){pins:List (Addr×Obj)}{s:Shared}{σ:St}{H:Hp}{R:V→V→Hp→Prop}(I:Inv X pins σ H s)(h:ta σ H fun x H1=>tb σ H1 fun y H2=>R x y H2)
  {α:Type}{Q:α→Shared→Prop}{f:Value→Value→Sem α}
  (hf: ∀v u s2 x y H2,Inv X pins σ H2 s2→RelV x v→RelV y u→R x y H2→wpAny (model X.prog X.w) X.A (f v u) Q X.xe s2):
  wpAny (model X.prog X.w) X.A (eval a X.env) (fun v s₁=>wpAny (model X.prog X.w) X.A (eval b X.env) (fun u s₂=>wpAny (model X.prog X.w) X.A (f v u) Q X.xe s₂) X.xe s₁) X.xe s:=by
 refine eQ (ha pins s σ H _ I h) fun v s1⟨x,H1,I1,r1,q1⟩=>?_
 refine eQ (hb pins s1 σ H1 _ I1 q1) fun u s2⟨y,H2,I2,r2,q2⟩=>?_
 exact hf v u s2 x y H2 I2 r1 r2 q2
def Tz(i:Nat):TE:=fun σ H Q=>∃v,σ[i]? =some (some v)∧Q v H
def tC(v:V):TE:=fun _ H Q=>Q v H
theorem Qb{i:Nat}{x:Str}{pos:Pos}(hN:X.N[i]? =some x)(hv:R8 X.env.scope x)(hd:(x==("__debug__":Str))=false:=by decide)(tV:(x==("__classdict__":Str))=false:=by decide):PE X (.Name x pos) (Tz i):=by
 intro pins s σ H Q I h
 obtain⟨v,e,h⟩:=h
 obtain⟨m,hn,hl⟩:=I.loc
 obtain⟨u,r,l⟩:=hl i x v hN e hv
 have fin:EP X pins σ Q u s:=⟨v,H,I,r,h⟩
 rcases l with⟨hk,hm⟩|⟨hk,c,hc,Ex⟩
 ·exact wpAny_Name (wpAny_loadName_local I.ok.kind hk hn hm fin) hd
 ·rcases hk with hk|hk
  ·exact wpAny_Name (wpAny_loadName_cell I.ok.kind hk hc Ex fin) hd
  ·exact wpAny_Name (wpAny_loadName_free I.ok.kind hk hc Ex fin tV) hd
theorem bG{i j pos}:PE X (.Constant (.int i) j pos) (tC (.int i)):=fun _ _ _ H _ I h=>wpAny_Constant_int ⟨.int i,H,I.tok _,⟨_,rfl⟩,h⟩
theorem qc{b j pos}:PE X (.Constant (.bool b) j pos) (tC (.bl b)):=fun _ _ _ H _ I h=>Constant_bool ⟨.bl b,H,I,rfl,h⟩
theorem sU{j pos}:PE X (.Constant .none j pos) (tC .fC):=fun _ _ _ H _ I h=>Constant_none ⟨.fC,H,I,rfl,h⟩
def Gl(X:Cx)(x:Str):Prop:=X.env.kindOf x=some .globalImplicit
theorem rK{E:Value→Shared→Prop}{pins:List (Addr×Obj)}{s:Shared}{σ:St}{H:Hp}{x:Str}{u:Value}{pos:Pos}{Q:Value→Shared→Prop}(I:Inv X pins σ H s)(hg:Gl X x)(hm:X.mg x=some u)(h:Q u s)
  (hd:(x==("__debug__":Str))=false:=by decide):wpAny (model X.prog X.w) X.A (eval (.Name x pos) X.env) Q E s:=
 Calls.Name_function_global I.ok.kind hg (Calls.loadGlobal_global (by rw[I.ok.glob];exact I.mod.glob.keeps I.bk) hm h) hd
theorem qp{E:Value→Shared→Prop}{pins:List (Addr×Obj)}{s:Shared}{σ:St}{H:Hp}{x:Str}{u:Value}{pos:Pos}{Q:Value→Shared→Prop}(I:Inv X pins σ H s)(hg:Gl X x)(hm:X.mg x=none)(hv:bootBuiltins x=some u)(h:Q u s)
  (hn:x≠"__name__":=by decide)(hd:(x==("__debug__":Str))=false:=by decide):wpAny (model X.prog X.w) X.A (eval (.Name x pos) X.env) Q E s:=by
 obtain⟨mb,h1,h2⟩:=I.mod.blt
 exact Calls.Name_function_global I.ok.kind hg (Calls.loadGlobal_builtin (by rw[I.ok.glob];exact I.mod.glob.keeps I.bk) hm (by rw[I.ok.blt];exact h1.keeps I.bk) ((h2 x hn).trans hv) h) hd
theorem dC{x:Str}{v:V}{u:Value}{pos:Pos}(hg:Gl X x)(hm:X.mg x=some u)(r:RelV v u)(hd:(x==("__debug__":Str))=false:=by decide):PE X (.Name x pos) (tC v):=
 fun _ _ _ H _ I h=>rK I hg hm ⟨v,H,I,r,h⟩ hd
variable{a b:Expr}{ta tb:TE}{pos:Pos}
def PC(X:Cx)(op:CmpOp)(a b:Expr)(t:TE):Prop:=
 ∀(pins:List (Addr×Obj))(s:Shared)(σ:St)(H:Hp)(Q:VK),Inv X pins σ H s→t σ H Q→
  wpAny (model X.prog X.w) X.A (eval a X.env) (fun v s₁=>wpAny (model X.prog X.w) X.A (eval b X.env) (fun u s₂=>wpAny (model X.prog X.w) X.A (compareOp op v u) (EP X pins σ Q) X.xe s₂) X.xe s₁) X.xe s
theorem IX(b:Expr){op:CmpOp}(h:op≠ .In)(h2:op≠ .NotIn):behindInMarks op b=false:=by
 have e1:(op==CmpOp.In)=false:=by cases op<;>first|rfl|exact absurd rfl h
 have e2:(op==CmpOp.NotIn)=false:=by cases op<;>first|rfl|exact absurd rfl h2
 cases b<;>simp[behindInMarks,e1,e2]
def Xy(ta:TE):TE:=fun σ H Q=>ta σ H fun x H1=>Q (.bl (decide (x=.fC))) H1
theorem RelV.IY{x:V}{v:Value}(r:RelV x v):(v==Value.none)=decide (x=.fC):=by
 cases x with
 |fC=>cases r;rfl
 |bl _=>cases r;rfl
 |int _=>obtain⟨t,rfl⟩:=r;rfl
 |str _=>obtain⟨t,rfl⟩:=r;rfl
 |Bp _=>obtain⟨t,rfl⟩:=r;rfl
 |To _=>obtain⟨t,rfl⟩:=r;rfl
 |ref _=>cases r;rfl
 |ty _=>cases r;rfl
theorem zK{j pos'}(ha:PE X a ta):PC X .Is a (.Constant .none j pos') (Xy ta):=by
 intro pins s σ H Q I h
 refine eQ (ha pins s σ H _ I h) fun v s1⟨x,H1,I1,r1,q1⟩=>?_
 exact Constant_none (is_none_gen ⟨.bl _,H1,I1,by rw[r1.IY];rfl,q1⟩)
def tB(t:TE):TT:=fun σ H Q=>t σ H fun x H1=>∃c,x=.bl c∧Q c H1
theorem zL{op:CmpOp}{t:TE}(h:PC X op a b t)(h1:behindInMarks op b=false:=by first|exact IX _ (by decide) (by decide)|rfl):PT X (.Compare a [op] [b] pos) (tB t):=by
 intro pins s σ H Q I hw
 refine wpAny_isTrue_Compare1 (eQ (h pins s σ H _ I hw) fun v s1 h1=>eQ h1 fun u s2 h2=>eQ h2 fun c s3⟨x,H1,I1,r1,q1⟩=>?_) h1
 obtain⟨d,rfl,q⟩:=q1
 cases r1
 exact eC ⟨H1,I1,q⟩
theorem fH{e:Expr}{t:TE}(h:PE X e t)(he: ∀whole,isTrue e X.env whole=(do let v←whole;standAt e.pos;holding [v] (truthy v)):=by intro _;rfl):PT X e (tB t):=by
 intro pins s σ H Q I hw
 refine isTrue_plain (eQ (h pins s σ H _ I hw) fun v s1⟨x,H1,I1,r1,q1⟩=>?_) (he _)
 obtain⟨d,rfl,q⟩:=q1
 cases r1
 exact eC ⟨H1,I1,q⟩
variable{tA V8:TT}{rest:List Expr}
def Xz(t u:TT):TT:=fun σ H Q=>t σ H fun c H1=>if c=true then u σ H1 Q else Q false H1
def tOr(t u:TT):TT:=fun σ H Q=>t σ H fun c H1=>if c=true then Q true H1 else u σ H1 Q
def XA(t:TT):TT:=fun σ H Q=>t σ H fun c H1=>Q (!c) H1
theorem Mg(ha:PT X a tA):PW X (.BoolOp .And [a] pos) tA:=by
 intro wh pins s σ H Q I h
 refine isTrue_and (eQ (ha pins s σ H Q I h) fun c s1 e=>?_)
 cases c with
 |true=>exact isTrue_and_nil e
 |false=>exact e
theorem zM(ha:PT X a tA):PW X (.BoolOp .Or [a] pos) tA:=by
 intro wh pins s σ H Q I h
 refine isTrue_or (eQ (ha pins s σ H Q I h) fun c s1 e=>?_)
 cases c with
 |false=>exact isTrue_or_nil e
 |true=>exact e
theorem IZ(ha:PT X a tA)(hb:PW X (.BoolOp .And (b::rest) pos) V8):PW X (.BoolOp .And (a::b::rest) pos) (Xz tA V8):=by
 intro wh pins s σ H Q I h
 refine isTrue_and (eQ (ha pins s σ H _ I h) fun c s1⟨H1,I1,q1⟩=>?_)
 cases c with
 |true=>exact hb wh pins s1 σ H1 Q I1 q1
 |false=>exact⟨H1,I1,q1⟩
theorem Bs(ha:PT X a tA)(hb:PW X (.BoolOp .Or (b::rest) pos) V8):PW X (.BoolOp .Or (a::b::rest) pos) (tOr tA V8):=by
 intro wh pins s σ H Q I h
 refine isTrue_or (eQ (ha pins s σ H _ I h) fun c s1⟨H1,I1,q1⟩=>?_)
 cases c with
 |true=>exact⟨H1,I1,q1⟩
 |false=>exact hb wh pins s1 σ H1 Q I1 q1
theorem iR(ha:PT X a tA):PT X (.UnaryOp .Not a pos) (XA tA):=by
 intro pins s σ H Q I h
 exact isTrue_not (ha pins s σ H (fun c H1=>Q (!c) H1) I h)
def TB(ta tb:TE):TE:=fun σ H Q=>ta σ H fun x H1=>∃c,x=.bl c∧if c=true then tb σ H1 Q else Q (.bl false) H1
theorem Qc{op}{t:TE}(h:PE X a t):PE X (.BoolOp op [a] pos) t:=fun pins s σ H Q I hw=>BoolOp_one (h pins s σ H Q I hw)
theorem Qe(ha:PE X a ta)(hb:PE X (.BoolOp .And (b::rest) pos) tb):PE X (.BoolOp .And (a::b::rest) pos) (TB ta tb):=by
 intro pins s σ H Q I h
 refine BoolOp_and (eQ (ha pins s σ H _ I h) fun v s1⟨x,H1,I1,r1,q1⟩=>?_)
 obtain⟨c,rfl,q1⟩:=q1
 cases r1
 refine eC ?_
 cases c with
 |true=>exact hb pins s1 σ H1 Q I1 q1
 |false=>exact⟨.bl false,H1,I1,rfl,q1⟩
def tIf(t:TT)(ta tb:TE):TE:=fun σ H Q=>t σ H fun c H1=>if c=true then ta σ H1 Q else tb σ H1 Q
theorem I0{c:Expr}(hc:PT X c tA)(ha:PE X a ta)(hb:PE X b tb):PE X (.IfExp c a b pos) (tIf tA ta tb):=by
 intro pins s σ H Q I h
 refine wpAny_IfExp (eQ (hc pins s σ H _ I h) fun d s1⟨H1,I1,q1⟩=>?_)
 cases d with
 |true=>exact ha pins s1 σ H1 Q I1 q1
 |false=>exact hb pins s1 σ H1 Q I1 q1
end
end L2
namespace L2
open PySem PySem.Spec PyProof.Rows
def cy(K:W.Frag)(H:Hp)(a:Addr)(xs:List V):Prop:=
 Rd H a (.lst xs)∨
  ∃(o:Obj)(cw:Array Value)(n:Nat),K.lookup a=some o∧o.cls=.type "list"∧o.dict=none∧o.data=.seq cw n∧cw.size≤sizeLine∧Vals xs cw.toList
def Ls(K:W.Frag)(H:Hp)(a:Addr)(xs:List V):Prop:=
 Rd H a (.tup xs)∨
  ∃(o:Obj)(cw:Array Value)(n:Nat),K.lookup a=some o∧o.cls=.type "tuple"∧o.data=.seq cw n∧cw.size≤sizeLine∧Vals xs cw.toList
def XB:Value→Option V
 |.none=>some .fC
 |.bool b=>some (.bl b)
 |.int i _=>some (.int i)
 |.str x _=>some (.str x)
 |.bytes b _=>some (.Bp b)
 |.float b _=>some (.To b)
 |.ref a=>some (.ref a)
 |.type n=>some (.ty n)
 |_=>none
theorem RelV.abs{x:V}{u:Value}(r:RelV x u):XB u=some x:=by
 cases x with
 |fC=>cases r;rfl
 |bl _=>cases r;rfl
 |int _=>obtain⟨t,rfl⟩:=r;rfl
 |str _=>obtain⟨t,rfl⟩:=r;rfl
 |Bp _=>obtain⟨t,rfl⟩:=r;rfl
 |To _=>obtain⟨t,rfl⟩:=r;rfl
 |ref _=>cases r;rfl
 |ty _=>cases r;rfl
theorem RelV.inj{x y:V}{u:Value}(r:RelV x u)(q:RelV y u):x=y:=a7 (r.abs.symm.trans q.abs)
theorem Vals.inj: ∀{xs ys:List V}{us:List Value},Vals xs us→Vals ys us→xs=ys
 |_,_,_,.nil,.nil=>rfl
 |_,_,_,.cons r t,.cons r' t'=>by rw[r.inj r',Vals.inj t t']
section
variable{X:Cx}{pins:List (Addr×Obj)}{σ:St}{H:Hp}{s:Shared}{a:Addr}{xs ys:List V}
theorem cy.of{K:W.Frag}(h:H a=some (.lst xs)):cy K H a xs:=.inl (.inl h)
theorem Inv.list(I:Inv X pins σ H s)(h:cy X.K H a xs): ∃cw:List Value,Vals xs cw∧PlainL s.heap a cw.toArray∧xs.length≤sizeLine:=by
 rcases h with h|⟨o,cw,n,hk,hc,hd,hs,hz,r⟩
 ·obtain⟨z,cw,n,r,e⟩:=h.ok I.eZ
  exact⟨cw,r,⟨_,n,e,rfl,rfl,rfl⟩,z⟩
 ·refine⟨cw.toList,r,⟨o,n,I.Ck a o hk,hc,hd,by simpa using hs⟩,?_⟩
  have e:=r.length
  simp only[bS]at e
  omega
theorem Inv.tuple(I:Inv X pins σ H s)(h:Ls X.K H a xs): ∃cw:List Value,Vals xs cw∧IsTup s.heap a cw.toArray∧xs.length≤sizeLine:=by
 rcases h with h|⟨o,cw,n,hk,hc,hs,hz,r⟩
 ·obtain⟨z,cw,r,p⟩:=h.ok I.eZ
  exact⟨cw,r,p,z⟩
 ·refine⟨cw.toList,r,⟨o,I.Ck a o hk,hc,n,by simpa using hs⟩,?_⟩
  have e:=r.length
  simp only[bS]at e
  omega
theorem Inv.oR(I:Inv X pins σ H s)(h:cy X.K H a xs)(h':cy X.K H a ys):xs=ys:=by
 obtain⟨cw,r,⟨o,n,e,_,_,d⟩,_⟩:=I.list h
 obtain⟨its',r',⟨o',n',e',_,_,d'⟩,_⟩:=I.list h'
 rw[e]at e';cases e'
 rw[d]at d'
 injection d' with d1 _
 have:cw=its':=by simpa using ba Array.toList d1
 subst this
 exact r.inj r'
end
abbrev Cx.xQ(X:Cx)(E:Value→Shared→Prop):Cx:={X with xe:=E}
abbrev Cx.V9(X:Cx):Cx:=X.xQ fun _ _=>False
theorem Cx.Ok.xQ{X:Cx}(ok:X.Ok)(E:Value→Shared→Prop):(X.xQ E).Ok:=
 ⟨ok.mod,ok.kind,ok.glob,ok.blt,ok.above,ok.inj,ok.has,ok.Tu,ok.hd,ok.frames,ok.V5,ok.V6,ok.bs,ok.Lr,ok.IT,ok.IU,ok.uq,ok.P9⟩
theorem Cx.Ok.oS{X:Cx}{E:Value→Shared→Prop}(ok:(X.xQ E).Ok):X.Ok:=
 ⟨ok.mod,ok.kind,ok.glob,ok.blt,ok.above,ok.inj,ok.has,ok.Tu,ok.hd,ok.frames,ok.V5,ok.V6,ok.bs,ok.Lr,ok.IT,ok.IU,ok.uq,ok.P9⟩
section
variable{X:Cx}{pins:List (Addr×Obj)}{σ:St}{H:Hp}{s:Shared}{E:Value→Shared→Prop}
theorem Inv.xQ(I:Inv X pins σ H s)(E:Value→Shared→Prop):Inv (X.xQ E) pins σ H s:=⟨I.ok.xQ E,I.os,I.bare,I.base,I.loc,I.cell,I.free,I.n8,I.pin,I.eZ,I.len⟩
theorem Inv.oS(I:Inv (X.xQ E) pins σ H s):Inv X pins σ H s:=⟨I.ok.oS,I.os,I.bare,I.base,I.loc,I.cell,I.free,I.n8,I.pin,I.eZ,I.len⟩
theorem SP.oS{D:Ends}{f:Flow}{s':Shared}(h:SP (X.xQ E) pins D f s'):SP X pins D f s':=by
 cases f with
 |next=>obtain⟨σ',H',I,q⟩:=h;exact⟨σ',H',I.oS,q⟩
 |brk=>obtain⟨σ',H',I,q⟩:=h;exact⟨σ',H',I.oS,q⟩
 |cont=>obtain⟨σ',H',I,q⟩:=h;exact⟨σ',H',I.oS,q⟩
 |ret u=>obtain⟨v,σ',H',I,r,q⟩:=h;exact⟨v,σ',H',I.oS,r,q⟩
theorem Ge.V9{st:List Stmt}{t:TS}(h:Ge X.V9 st t):Ge X st t:=fun pins s σ H D I hw=>
 i5 (h pins s σ H D (I.xQ _) hw) (fun _ _ q=>q.oS) fun _ _ z=>False.elim z
end
section
variable{X:Cx}{st:Stmt}{rest:List Stmt}{t u:TS}{e:Expr}{te:TE}{pos:Pos}
def TC:TS:=fun D σ H=>D.nx σ H
def XC(t u:TS):TS:=fun D σ H=>t {D with nx:=u D} σ H
theorem cq:Ge X [] TC:=fun _ _ σ H _ I h=>AJ ⟨σ,H,I,h⟩
theorem ak(h1:PS X st t)(h2:Ge X rest u):Ge X (st::rest) (XC t u):=by
 intro pins s σ H D I h
 refine wpAny_execs_cons (eQ (h1 pins s σ H {D with nx:=u D} I h) fun f s1 q=>?_)
 cases f with
 |next=>
  obtain⟨σ',H',I',q⟩:=q
  exact h2 pins s1 σ' H' D I' q
 |ret v=>exact q
 |brk=>exact q
 |cont=>exact q
theorem aA(h1:PS X st t):Ge X [st] t:=by
 intro pins s σ H D I h
 refine wpAny_execs_cons (eQ (h1 pins s σ H D I h) fun f s1 q=>?_)
 cases f with
 |next=>exact AJ q
 |ret v=>exact q
 |brk=>exact q
 |cont=>exact q
theorem Inv.quiet{pins:List (Addr×Obj)}{σ:St}{H:Hp}{s:Shared}(I:Inv X pins σ H s):interactive X.env=false:=by simp[interactive,I.ok.kind]
def TF(te:TE):TS:=fun D σ H=>te σ H fun _ H1=>D.nx σ H1
theorem gz(he:PE X e te)(hs:swapsWith e none pos.line X.env=pure false:=by rfl):PS X (.Expr e pos) (TF te):=by
 intro pins s σ H D I h
 exact wpAny_Expr_any (eQ (he pins s σ H _ I h) fun v s1⟨x,H1,I1,r1,q1⟩=>⟨σ,H1,I1,q1⟩) I.quiet hs
def XD(te:TE):TS:=fun D σ H=>te σ H D.rt
theorem a9(he:PE X e te):PS X (.Return (some e) pos) (XD te):=by
 intro pins s σ H D I h
 exact wpAny_Return_some (eQ (he pins s σ H _ I h) fun v s1⟨x,H1,I1,r1,q1⟩=>⟨x,σ,H1,I1,r1,q1⟩)
def XE(c:TT)(t u:TS):TS:=fun D σ H=>c σ H fun b H1=>if b=true then t D σ H1 else u D σ H1
theorem dR{c:Expr}{a b:List Stmt}{tc:TT}(hc:PT X c tc)(ha:Ge X a t)(hb:Ge X b u):PS X (.If c a b pos) (XE tc t u):=by
 intro pins s σ H D I h
 refine wpAny_If (eQ (hc pins s σ H _ I h) fun d s1⟨H1,I1,q1⟩=>?_)
 cases d with
 |true=>exact ha pins s1 σ H1 D I1 q1
 |false=>exact hb pins s1 σ H1 D I1 q1
def Qg:TS:=fun _ _ _=>False
theorem Ja:PS X st Qg:=fun _ _ _ _ _ _ h=>h.elim
end
abbrev TG:=V→St→Hp→(St→Hp→Prop)→Prop
abbrev Qh:=List V→St→Hp→(St→Hp→Prop)→Prop
def PG(X:Cx)(target:Expr)(t:TG):Prop:=
 ∀(pins:List (Addr×Obj))(s:Shared)(σ:St)(H:Hp)(v:V)(u:Value)(Q:St→Hp→Prop),Inv X pins σ H s→RelV v u→t v σ H Q→
  wpAny (model X.prog X.w) X.A (assign target X.env u) (fun _ s'=>∃σ' H',Inv X pins σ' H' s'∧Q σ' H') X.xe s
def Wa(X:Cx)(ts:List Expr)(t:Qh):Prop:=
 ∀(pins:List (Addr×Obj))(s:Shared)(σ:St)(H:Hp)(vs:List V)(us:List Value)(Q:St→Hp→Prop),Inv X pins σ H s→Vals vs us→t vs σ H Q→
  wpAny (model X.prog X.w) X.A (assignInOrder ((assignEach ts X.env).map (·.2)) us) (fun _ s'=>∃σ' H',Inv X pins σ' H' s'∧Q σ' H') X.xe s
abbrev Jb:=V→V→V→Hp→(Hp→Prop)→Prop
def Qi(X:Cx)(t:Jb):Prop:=
 ∀(pins:List (Addr×Obj))(s:Shared)(σ:St)(H:Hp)(o i v:V)(ov iv u:Value)(Q:Hp→Prop),Inv X pins σ H s→RelV o ov→RelV i iv→RelV v u→t o i v H Q→
  wpAny (model X.prog X.w) X.A (setItem ov iv u) (fun _ s'=>∃H',Inv X pins σ H' s'∧Q H') X.xe s
abbrev R9:=V→V→Hp→VK→Prop
def XF(X:Cx)(op:Operator)(t:R9):Prop:=
 ∀(pins:List (Addr×Obj))(s:Shared)(σ:St)(H:Hp)(x y:V)(v u:Value)(Q:VK),Inv X pins σ H s→RelV x v→RelV y u→t x y H Q→
  wpAny (model X.prog X.w) X.A (inplaceOp op v u) (EP X pins σ Q) X.xe s
section
variable{X:Cx}{pos:Pos}
def gM(i:Nat):TG:=fun v σ H Q=>Q (σ.set i (some v)) H
theorem bE{i:Nat}{x:Str}(hN:X.N.Nodup)(hi:X.N[i]? =some x)(hx:Loc X.env.scope x)(hf:X.fn x=true∨X.env.scope.names.lookup x=some .local:=by first|exact .inl rfl|exact .inr rfl|assumption):PG X (.Name x pos) (gM i):=by
 intro pins s σ H v u Q I r h
 exact wpAny_assign_Name (wq I hN hi hx r (fun s' I'=>⟨_,H,I',h⟩) hf)
def xR:Qh:=fun vs σ H Q=>vs=[]∧Q σ H
def iS(t:TG)(u:Qh):Qh:=fun vs σ H Q=>∃v r,vs=v::r∧t v σ H fun σ' H'=>u r σ' H' Q
theorem jy:Wa X [] xR:=by
 intro pins s σ H vs us Q I r h
 obtain⟨e,h⟩:=h
 subst e
 cases r
 exact assignInOrder_nil ⟨σ,H,I,h⟩
theorem dz{e:Expr}{es:List Expr}{t:TG}{u:Qh}(h1:PG X e t)(h2:Wa X es u)
  (hs:(assignEach (e::es) X.env).map (·.2)=assign e X.env::(assignEach es X.env).map (·.2):=by rfl):Wa X (e::es) (iS t u):=by
 intro pins s σ H vs us Q I r h
 obtain⟨v,vr,e1,h⟩:=h
 subst e1
 cases r with
 |cons r rr=>
  rw[hs]
  refine assignInOrder_cons (eQ (h1 pins s σ H _ _ _ I r h) fun _ s1⟨σ1,H1,I1,q1⟩=>?_)
  exact h2 pins s1 σ1 H1 _ _ Q I1 rr q1
def xS(K:W.Frag)(n:Nat)(t:Qh):TG:=fun v σ H Q=>∃a xs,v=.ref a∧Ls K H a xs∧xs.length=n∧t xs σ H Q
theorem lQ{es:List Expr}{k:Nat}{t:Qh}{n:Nat}(hc:X.calm=true)(h:Wa X es t)
  (hn:(assignEach es X.env).length=n:=by rfl)(Lu:(assignEach es X.env).findIdx? (·.1)=none:=by rfl):PG X (.Tuple es k pos) (xS X.K n t):=by
 intro pins s σ H v u Q I r hw
 obtain⟨a,xs,e1,hq,hl,hw⟩:=hw
 subst e1
 cases r
 obtain⟨cw,rv,ht,hz⟩:=I.tuple hq
 refine assign_Tuple_tuple (I.ok.hd hc) ht (by simp[hn,←hl,rv.length]) Lu fun h' hx=>?_
 have I1:Inv X pins σ H {s with heap:=h'}:=I.kept (t':=s.toks) fun b o e=>hx b o (br (aS e)) e
 exact h pins _ σ H xs _ Q I1 (by simpa using rv) hw
def XG(to ti:TE)(t:Jb):TG:=fun v σ H Q=>to σ H fun o H1=>ti σ H1 fun i H2=>t o i v H2 fun H3=>Q σ H3
theorem Dc{o i:Expr}{to ti:TE}{t:Jb}(ho:PE X o to)(hi:PE X i ti)(hs:Qi X t)
  (ha: ∀v,assign (.Subscript o i pos) X.env v=(do
   let ov←holding [v] (eval o X.env)
   let iv←holding [v,ov] (eval i X.env)
   standAt pos
   holding [v,ov,iv] (setItem ov iv v)
   release [v,ov,iv] []):=by intro _;rfl):PG X (.Subscript o i pos) (XG to ti t):=by
 intro pins s σ H v u Q I r h
 rw[ha]
 refine wpAny_bind (fK (eQ (ho pins s σ H _ I h) fun ov s1⟨x,H1,I1,r1,q1⟩=>?_))
 refine wpAny_bind (fK (eQ (hi pins s1 σ H1 _ I1 q1) fun iv s2⟨y,H2,I2,r2,q2⟩=>?_))
 refine wpAny_bind (wpAny_standAt (wpAny_bind (fK (eQ (hs pins s2 σ H2 x y v ov iv u _ I2 r1 r2 r q2) fun _ s3⟨H3,I3,q3⟩=>?_))))
 exact wpAny_release ⟨σ,H3,I3,q3⟩
def Qj(te:TE)(g:TG):TS:=fun D σ H=>te σ H fun x H1=>g x σ H1 D.nx
theorem De{tg e:Expr}{te:TE}{g:TG}(he:PE X e te)(hg:PG X tg g)(hs:swapsWithSole [tg] e pos.line X.env=pure false:=by rfl)(hw:swappedStores [tg] e X.env=pure none:=by rfl)
  (h1:(assignEach [tg] X.env).map (·.2)=[assign tg X.env]:=by rfl):PS X (.Assign [tg] e pos) (Qj te g):=by
 intro pins s σ H D I h
 refine wpAny_Assign_stores (eQ (he pins s σ H _ I h) fun v s1⟨x,H1,I1,r1,q1⟩=>?_) hs hw
 rw[h1]
 exact eQ (hg pins s1 σ H1 x v _ I1 r1 q1) fun _ s2 q=>q
theorem bI{i:Nat}{x:Str}{e:Expr}{te:TE}{pos':Pos}(hN:X.N.Nodup)(hi:X.N[i]? =some x)(hx:Loc X.env.scope x)(he:PE X e te)(hs:swapsWith e (some (.Name x pos')) pos.line X.env=pure false:=by rfl)(hf:X.fn x=true∨X.env.scope.names.lookup x=some .local:=by first|exact .inl rfl|exact .inr rfl|assumption):
  PS X (.Assign [.Name x pos'] e pos) (Qj te (gM i)):=by
 intro pins s σ H D I h
 refine wpAny_Assign_Name (eQ (he pins s σ H _ I h) fun v s1⟨y,H1,I1,r1,q1⟩=>?_) hs
 exact wq I1 hN hi hx r1 (fun s2 I2=>⟨_,H1,I2,q1⟩) hf
def XH(i:Nat)(te:TE)(ti:R9):TS:=fun D σ H=>∃x,σ[i]? =some (some x)∧te σ H fun y H1=>ti x y H1 fun z H2=>D.nx (σ.set i (some z)) H2
theorem sV{i:Nat}{x:Str}{e:Expr}{te:TE}{op:Operator}{ti:R9}{pos':Pos}(hN:X.N.Nodup)(hi:X.N[i]? =some x)(hx:Loc X.env.scope x)(he:PE X e te)(ho:XF X op ti)(hf:X.fn x=true∨X.env.scope.names.lookup x=some .local:=by first|exact .inl rfl|exact .inr rfl|assumption):
  PS X (.AugAssign (.Name x pos') op e pos) (XH i te ti):=by
 intro pins s σ H D I h
 obtain⟨v,e1,h⟩:=h
 obtain⟨m,hn,hl⟩:=I.loc
 have vis:R8 X.env.scope x:=by rcases hx with k|k;exact .inl k;exact .inr (.inl k)
 obtain⟨u,r,l⟩:=hl i x v hi e1 vis
 refine wpAny_AugAssign_Name ?_
 have go:wpAny (model X.prog X.w) X.A (eval e X.env) (fun w s₂=>wpAny (model X.prog X.w) X.A (inplaceOp op u w) (fun r s₃=>wpAny (model X.prog X.w) X.A (storeName X.env x r) (fun _=>SP X pins D .next) X.xe s₃) X.xe s₂) X.xe s:=by
  refine eQ (he pins s σ H _ I h) fun w s1⟨y,H1,I1,r1,q1⟩=>?_
  refine eQ (ho pins s1 σ H1 v y u w _ I1 r r1 q1) fun z s2⟨zv,H2,I2,r2,q2⟩=>?_
  exact wq I2 hN hi hx r2 (fun s3 I3=>⟨_,H2,I3,q2⟩) hf
 rcases l with⟨hk,hm⟩|⟨hk,c,hc,Ex⟩
 ·exact wpAny_loadName_local I.ok.kind hk hn hm go
 ·rcases hk with hk|hk
  ·exact wpAny_loadName_cell I.ok.kind hk hc Ex go
  ·rcases hx with k|k
   ·have:X.env.scope.names.lookup x=some .free:=hk
    rw[k]at this;cases this
   ·have:X.env.scope.names.lookup x=some .free:=hk
    rw[k]at this;cases this
def TH(to ti te:TE)(Mh:V→V→Hp→VK→Prop)(Wb:R9)(Mi:Jb):TS:=fun D σ H=>to σ H fun o H1=>ti σ H1 fun i H2=>Mh o i H2 fun x H3=>te σ H3 fun y H4=>Wb x y H4 fun z H5=>Mi o i z H5 fun H6=>D.nx σ H6
def TJ(X:Cx)(t:V→V→Hp→VK→Prop):Prop:=
 ∀(pins:List (Addr×Obj))(s:Shared)(σ:St)(H:Hp)(o i:V)(ov iv:Value)(Q:VK),Inv X pins σ H s→RelV o ov→RelV i iv→t o i H Q→
  wpAny (model X.prog X.w) X.A (getItem ov iv) (EP X pins σ Q) X.xe s
theorem Mj{o i e:Expr}{to ti te:TE}{Mh:V→V→Hp→VK→Prop}{Wb:R9}{Mi:Jb}{op:Operator}{ur:Pos}(ho:PE X o to)(hi:PE X i ti)(hg:TJ X Mh)(he:PE X e te)(hp:XF X op Wb)(hs:Qi X Mi)
  (ha: ∀ov iv new,augStore i ov iv new=(do holding [new,ov,iv] (setItem ov iv new);release [new,ov,iv] [];pure .next):=by intros;rfl):PS X (.AugAssign (.Subscript o i ur) op e pos) (TH to ti te Mh Wb Mi):=by
 intro pins s σ H D I h
 refine wpAny_AugAssign_SubscriptAny (eQ (ho pins s σ H _ I h) fun ov s1⟨x1,H1,I1,r1,q1⟩=>?_) ha
 refine eQ (hi pins s1 σ H1 _ I1 q1) fun iv s2⟨x2,H2,I2,r2,q2⟩=>?_
 refine eQ (hg pins s2 σ H2 x1 x2 ov iv _ I2 r1 r2 q2) fun old s3⟨x3,H3,I3,r3,q3⟩=>?_
 refine eQ (he pins s3 σ H3 _ I3 q3) fun v s4⟨x4,H4,I4,r4,q4⟩=>?_
 refine eQ (hp pins s4 σ H4 x3 x4 old v _ I4 r3 r4 q4) fun new s5⟨x5,H5,I5,r5,q5⟩=>?_
 exact eQ (hs pins s5 σ H5 x1 x2 x5 ov iv new _ I5 r1 r2 r5 q5) fun _ s6⟨H6,I6,q6⟩=>⟨σ,H6,I6,q6⟩
def ipI(f:Int→Int→Int):R9:=fun x y H Q=>∃i j,x=.int i∧y=.int j∧Q (.int (f i j)) H
theorem qr:XF X .Add (ipI fun i j=>i+j):=by
 intro pins s σ H x y v u Q I r1 r2 h
 obtain⟨i,j,e1,e2,q⟩:=h
 subst e1;subst e2
 obtain⟨t,rfl⟩:=r1
 obtain⟨t',rfl⟩:=r2
 exact iadd_int ⟨.int _,H,I.tok _,⟨_,rfl⟩,q⟩
end
section
variable{X:Cx}{pos:Pos}
def Qk(c:TT)(tb:TS):TS:=fun D σ H=>∃W:Nat→St→Hp→Prop,(∃m,W m σ H)∧∀m σ H,W m σ H→
 c σ H fun b H1=>if b=true then∃N:St→Hp→Prop,(∀σ' H',N σ' H'→∃m',m'<m∧W m' σ' H')∧tb {D with nx:=N,ct:=N,bk:=D.nx} σ H1 else D.nx σ H1
theorem iT{c:Expr}{body:List Stmt}{tc:TT}{tb:TS}(hp:PassesOwn (model X.prog X.w) X.A X.env X.xe)(hc:PT X c tc)(hb:Ge X body tb):PS X (.While c body [] pos) (Qk tc tb):=by
 intro pins s σ H D I h
 obtain⟨W,⟨m0,w0⟩,turn⟩:=h
 refine wpAny_While (codeAny_whileLoop (fun n s'=>∃σ' H',Inv X pins σ' H' s'∧W n σ' H') ?_ m0 ⟨σ,H,I,w0⟩)
 rintro n s1 ⟨σ1,H1,I1,w1⟩
 refine jc hp (eQ (hc pins s1 σ1 H1 _ I1 (turn n σ1 H1 w1)) fun b s2⟨H2,I2,q2⟩=>?_)
 cases b with
 |true=>
  obtain⟨N,hN,q2⟩:=q2
  rw[aO rfl]
  refine jc hp (eQ (hb pins s2 σ1 H2 _ I2 q2) fun f s3 q3=>?_)
  cases f with
  |next=>
   obtain⟨σ3,H3,I3,n3⟩:=q3
   obtain⟨m',hm,w3⟩:=hN σ3 H3 n3
   exact⟨m',hm,σ3,H3,I3,w3⟩
  |cont=>
   obtain⟨σ3,H3,I3,n3⟩:=q3
   obtain⟨m',hm,w3⟩:=hN σ3 H3 n3
   exact⟨m',hm,σ3,H3,I3,w3⟩
  |brk=>exact q3
  |ret v=>exact q3
 |false=>
  rw[aI bb]
  exact AJ ⟨σ1,H2,I2,q2⟩
end
structure It where
 go:Nat→Hp→Prop
 uu:Nat→Hp→V→Hp→Prop
 stop:Nat→Hp→Prop
def uv(X:Cx)(pins:List (Addr×Obj))(H:Hp)(b:Addr):Prop:=
 H b=none∧b≠X.env.locals∧b∉X.fs∧(b∈X.ex∨X.yk.heap.objs.size≤b)∧(∀x c,X.env.cells.lookup x=some c→c≠b)∧∀p∈X.pn++pins,p.1≠b
theorem Inv.Gf{X:Cx}{pins:List (Addr×Obj)}{σ:St}{H H':Hp}{s:Shared}{b:Addr}(I:Inv X pins σ H s)(hb:s.heap.objs.size≤b)(hn:H' b=none):uv X pins H' b:=by
 refine⟨hn,fg (bJ I.lt hb),I.Xs hb,.inr (bW I.sz hb),fun x c e z=>?_,fun p hp z=>?_⟩
 ·obtain⟨v,q⟩:=I.cell x c e
  exact absurd (bJ q.lt (by rw[z];exact hb)) (eh _)
 ·exact absurd (bJ (aS (I.pin p hp).1) (by rw[z];exact hb)) (eh _)
structure Turn(P:Program)(w:World)(K:W.Frag)(tg:Expr)(J:It)(fp:List Addr)(it:Addr)(tn:Nat→Heap→Prop):Prop where
 mem:it∈fp
 obj: ∀i h,tn i h→∀b∈fp,∃o,h.get? b=some o∧∀v,o.data≠ .cell v
 keep: ∀i h h',tn i h→(∀b∈fp,∀o,h.get? b=some o→h'.get? b=some o)→tn i h'
 item: ∀(X:Cx),X.prog=P→X.w=w→X.K=K→X.calm=true→∀(i:Nat)(pins:List (Addr×Obj))(s:Shared)(σ:St)(H:Hp)(E:Value→Shared→Prop),Inv X pins σ H s→(∀b∈fp,uv X pins H b)→tn i s.heap→J.go i H→
  wpAny (model P w) X.A (pyNext (.ref it)) (fun r s1=>∃u,r=some u∧
   wpAny (model P w) X.A (letOwnedTupleGo tg (.ref it) u) (fun _ s2=>∃x H',Inv X pins σ H' s2∧RelV x u∧J.uu i H x H'∧tn (i+1) s2.heap∧∀b∈fp,H' b=none) E s1) E s
 done: ∀(X:Cx),X.prog=P→X.w=w→X.K=K→X.calm=true→∀(i:Nat)(pins:List (Addr×Obj))(s:Shared)(σ:St)(H:Hp)(E:Value→Shared→Prop),Inv X pins σ H s→(∀b∈fp,uv X pins H b)→tn i s.heap→J.stop i H→
  wpAny (model P w) X.A (pyNext (.ref it)) (fun r s1=>r=none∧Inv X pins σ H s1) E s
 self: ∀(A:Around)(i:Nat)(s:Shared)(Q:Value→Shared→Prop)(E:Value→Shared→Prop),tn i s.heap→Q (.ref it) s→wpAny (model P w) A (pyIter (.ref it)) Q E s
abbrev TI:=St→Hp→(It→Hp→Prop)→Prop
def XI(X:Cx)(pins:List (Addr×Obj))(σ:St)(tg:Expr)(R:It→Hp→Prop)(XJ:Value)(s2:Shared):Prop:=
 ∃(it:Addr)(fp:List Addr)(tn:Nat→Heap→Prop)(J:It)(H':Hp),XJ=.ref it∧Inv X pins σ H' s2∧Turn X.prog X.w X.K tg J fp it tn∧tn 0 s2.heap∧(∀b∈fp,uv X pins H' b)∧R J H'
def PI(X:Cx)(tg iter:Expr)(wi:TI):Prop:=
 ∀(pins:List (Addr×Obj))(s:Shared)(σ:St)(H:Hp)(R:It→Hp→Prop),Inv X pins σ H s→wi σ H R→
  wpAny (model X.prog X.w) X.A (eval iter X.env) (fun v s1=>wpAny (model X.prog X.w) X.A (pyIter v) (XI X pins σ tg R) X.xe s1) X.xe s
theorem Jc{M:Model}{A:Around}{E:Value→Shared→Prop}{s:Shared}{tg:Expr}{it:Addr}{u:Value}{o:Obj}{n:String}{vs:Array Value}{Q:Unit→Shared→Prop}(ho:s.heap.get? it=some o)(hc:o.cls=.type n)(hd:o.data=.fields vs)
  (hn:["enumerate","zip","dict_itemiterator","dict_reverseitemiterator","odict_iterator","itertools.zip_longest","itertools.pairwise"].contains n=false)(hQ:Q () s):wpAny M A (letOwnedTupleGo tg (.ref it) u) Q E s:=by
 unfold letOwnedTupleGo
 cases tg<;>first
  |exact aF hQ
  |(cases u<;>first
    |exact aF hQ
    |(refine wpAny_bind (wpAny_load ho ?_)
      rw[hc,hd]
      show wpAny M A (if(["enumerate","zip","dict_itemiterator","dict_reverseitemiterator","odict_iterator","itertools.zip_longest","itertools.pairwise"].contains n&&vs[0]? ==some (rawInt _))=true then _ else _) Q E s
      rw[aI (by intro h;rw[hn,jd]at h;cases h)]
      exact aF hQ))
def Lv(K:W.Frag)(a:Addr):It:=
 ⟨fun i H=>∃xs x,cy K H a xs∧xs[i]? =some x,fun i H x H'=>H'=H∧∀xs,cy K H a xs→xs[i]? =some x,fun i H=>∃xs,cy K H a xs∧xs.length≤i⟩
def Ml(lo:Int)(n:Nat):It:=⟨fun i _=>i<n,fun i H x H'=>H'=H∧x=.int (lo+i),fun i _=>n≤i⟩
theorem Gg{P:Program}{w:World}{K:W.Frag}{tg:Expr}(a it:Addr):Turn P w K tg (Lv K a) [it] it (fun i h=>h.IsListIter it a i) where
 mem:=by simp
 obj:=fun i h st b hb=>by
  have e:b=it:=by simpa using hb
  subst e
  obtain⟨o,e,c,d⟩:=st
  exact⟨o,e,fun v z=>by rw[d]at z;cases z⟩
 keep:=fun i h h' st k=>st.at fun o e=>k it (by simp) o e
 item:=by
  intro X hP hw hK hc i pins s σ H E I hf st hg
  subst hP hw hK
  obtain⟨xs,x,hq,hx⟩:=hg
  obtain⟨cw,rv,p,hz⟩:=I.list hq
  obtain⟨u,hu,ru⟩:=rv.get hx
  obtain⟨f0,f1,f2,f3,f4,f5⟩:=hf it (by simp)
  refine wpAny_pyNext_list_item st p.isList (x:=u) (by simpa using hu) fun h' zN sb=>?_
  have I1:Inv X pins σ H {s with heap:=h'}:=I.turned (t':=s.toks) (fun b o hb e=>(sb.2 b hb).trans e) f0 f1 f3 f4 f5
  obtain⟨o,e,c,d⟩:=id zN
  exact⟨u,rfl,Jc (s:={s with heap:=h'}) e c d (by decide) ⟨x,H,I1,ru,⟨rfl,fun ys hy=>by rw[I.oR hy hq];exact hx⟩,zN,fun b hb=>(hf b hb).1⟩⟩
 done:=by
  intro X hP hw hK hc i pins s σ H E I hf st hg
  subst hP hw hK
  obtain⟨xs,hq,hx⟩:=hg
  obtain⟨cw,rv,p,hz⟩:=I.list hq
  obtain⟨f0,f1,f2,f3,f4,f5⟩:=hf it (by simp)
  have hl:=rv.length
  exact wpAny_pyNext_list_end (I.ok.hd hc) st p.isList (by simp;omega) fun h' eb=>⟨rfl,I.turned (t':=s.toks) (fun b o hb e=>eb b o hb e) f0 f1 f3 f4 f5⟩
 self:=fun _ _ _ _ _ st h=>wpAny_pyIter_listiter st h
theorem Df{P:Program}{w:World}{K:W.Frag}{tg:Expr}(it:Addr)(lo:Int)(n:Nat):Turn P w K tg (Ml lo n) [it] it (fun i h=>IsRangeIter h it (lo+(i:Nat)*1) ((n:Int)-(i:Nat)) 1) where
 mem:=by simp
 obj:=fun i h st b hb=>by
  have e:b=it:=by simpa using hb
  subst e
  exact⟨_,st,fun v z=>by
   have z':Data.fields _=Data.cell v:=z
   cases z'⟩
 keep:=fun i h h' st k=>k it (by simp) _ st
 item:=by
  intro X hP hw hK hc i pins s σ H E I hf st hg
  subst hP hw hK
  obtain⟨f0,f1,f2,f3,f4,f5⟩:=hf it (by simp)
  have W:=Walks.range (prog:=X.prog) (w:=X.w) (I.ok.hd hc) it lo 1 n
  refine W.item i s _ _ hg st fun v h' tk hv zN kk=>?_
  obtain⟨t,rfl⟩:=hv
  have I1:Inv X pins σ H {s with heap:=h',toks:=tk}:=I.turned (fun b o hb e=>kk b o (by simpa using hb) e) f0 f1 f3 f4 f5
  refine⟨_,rfl,Jc (s:={s with heap:=h',toks:=tk}) (n:="range_iterator") zN rfl rfl (by decide) ⟨.int (lo+i),H,I1,⟨t,?_⟩,⟨rfl,rfl⟩,zN,fun b hb=>(hf b hb).1⟩⟩
  rw[Int.mul_one]
 done:=by
  intro X hP hw hK hc i pins s σ H E I hf st hg
  subst hP hw hK
  obtain⟨f0,f1,f2,f3,f4,f5⟩:=hf it (by simp)
  exact wpAny_pyNext_range_end (I.ok.hd hc) st (by have:n≤i:=hg;omega) fun h' eb=>⟨rfl,I.turned (t':=s.toks) (fun b o hb e=>eb b o hb e) f0 f1 f3 f4 f5⟩
 self:=fun _ _ _ _ _ st h=>wpAny_pyIter_rangeiter st h
end L2
namespace L2
open PySem PySem.Spec PyProof.Rows
section
variable{X:Cx}{tg:Expr}
def TM(K:W.Frag)(tl:TE):TI:=fun σ H R=>tl σ H fun x H1=>∃a,x=.ref a∧(∃xs,cy K H1 a xs)∧R (Lv K a) H1
theorem d8{l:Expr}{tl:TE}(hl:PE X l tl):PI X tg l (TM X.K tl):=by
 intro pins s σ H R I h
 refine eQ (hl pins s σ H _ I h) fun v s1⟨x,H1,I1,r1,q1⟩=>?_
 obtain⟨a,e,⟨xs,hq⟩,q⟩:=q1
 subst e
 cases r1
 obtain⟨cw,rv,p,hz⟩:=I1.list hq
 refine wpAny_pyIter_list p.isList ?_
 refine⟨s1.heap.objs.size,[s1.heap.objs.size],_,_,H1,rfl,I1.kept (t':=s1.toks) fun b o e=>aw _ e,Gg a _,⟨_,aZ _ rfl,rfl,rfl⟩,fun b hb=>?_,q⟩
 have e:b=s1.heap.objs.size:=by simpa using hb
 subst e
 exact I1.Gf (aq _) (I1.eZ.fresh (aq _))
theorem Bt{pins:List (Addr×Obj)}{σ:St}{H:Hp}{s:Shared}{R:It→Hp→Prop}{E:Value→Shared→Prop}{lo hi:Int}{t u v:Tok}{tk:Nat}(I:Inv X pins σ H s)(h1: -(2^62)≤lo)(h2:lo<2^62)(h3: -(2^62)≤hi)(h4:hi<2^62)
  (q:R (Ml lo (hi-lo).toNat) H):wpAny (model X.prog X.w) X.A (pyIter (.ref s.heap.objs.size)) (XI X pins σ tg R) E {s with heap:=s.heap.push {cls:=.type "range",data:=.fields #[.int lo t,.int hi u,.int 1 v]},toks:=tk}:=by
 refine wpAny_pyIter_range (IsRange.new ..) (small_one h1 h2 h3 h4) ?_
 have I1:Inv X pins σ H {s with heap:=s.heap.push {cls:=.type "range",data:=.fields #[.int lo t,.int hi u,.int 1 v]},toks:=tk}:=I.kept fun b o e=>aw _ e
 refine⟨(s.heap.push {cls:=.type "range",data:=.fields #[.int lo t,.int hi u,.int 1 v]}).objs.size,[(s.heap.push {cls:=.type "range",data:=.fields #[.int lo t,.int hi u,.int 1 v]}).objs.size],_,_,H,rfl,
  I1.kept (t':=tk) fun b o e=>aw _ e,Df _ lo (hi-lo).toNat,?_,fun b hb=>?_,q⟩
 ·have e1:lo+((0:Nat):Int)*1=lo:=by simp
  have e2:(((hi-lo).toNat:Nat):Int)-((0:Nat):Int)=Builtin.Range.rangeSize lo hi 1:=by rw[rangeSize_one];split<;>omega
  show IsRangeIter _ _ (lo+((0:Nat):Int)*1) ((((hi-lo).toNat:Nat):Int)-((0:Nat):Int)) 1
  rw[e1,e2]
  exact aZ _ rfl
 ·have e:b=(s.heap.push {cls:=.type "range",data:=.fields #[.int lo t,.int hi u,.int 1 v]}).objs.size:=by simpa using hb
  subst e
  exact I1.Gf (aq _) (I1.eZ.fresh (aq _))
def TN(ta:TA):TI:=fun σ H R=>ta σ H fun vs H1=>∃j:Int,vs=[.int j]∧ -(2^62)≤j∧j<2^62∧R (Ml 0 j.toNat) H1
def TQ(ta:TA):TI:=fun σ H R=>ta σ H fun vs H1=>∃i j:Int,vs=[.int i,.int j]∧(-(2^62)≤i∧i<2^62∧ -(2^62)≤j∧j<2^62)∧R (Ml i (j-i).toNat) H1
theorem fQ{a:Expr}{ta:TA}{p pos:Pos}(hg:Gl X "range")(hm:X.mg "range"=none)(ha:PA X [a] ta)(hs:starEach [a] X.env=[(false,eval a X.env)]:=by rfl):PI X tg (.Call (.Name "range" p) [a] [] pos) (TN ta):=by
 intro pins s σ H R I h
 refine Call_ (qp I hg hm HC (d7 (eQ (ha pos pins s σ H _ I h) fun us s1⟨vs,H1,I1,r1,q1⟩=>?_) hs rfl))
 obtain⟨j,e,q1,q2,q⟩:=q1
 subst e
 cases r1 with
 |cons r rr=>
  cases rr
  obtain⟨t,rfl⟩:=r
  exact call_range_1 (Bt I1 (by omega) (by omega) q1 q2 (by simpa using q))
theorem sW{a b:Expr}{ta:TA}{p pos:Pos}(hg:Gl X "range")(hm:X.mg "range"=none)(ha:PA X [a,b] ta)(hs:starEach [a,b] X.env=[(false,eval a X.env),(false,eval b X.env)]:=by rfl)(PJ:starEach [b] X.env=[(false,eval b X.env)]:=by rfl):
  PI X tg (.Call (.Name "range" p) [a,b] [] pos) (TQ ta):=by
 intro pins s σ H R I h
 refine Call_ (qp I hg hm HC (d7 (eQ (ha pos pins s σ H _ I h) fun us s1⟨vs,H1,I1,r1,q1⟩=>?_) (by rw[hs,PJ]) (by rw[PJ];rfl)))
 obtain⟨i,j,e,⟨q1,q2,q3,q4⟩,q⟩:=q1
 subst e
 cases r1 with
 |cons r rr=>
  cases rr with
  |cons r' rr=>
   cases rr
   obtain⟨t,rfl⟩:=r
   obtain⟨t',rfl⟩:=r'
   exact call_range_2 (Bt I1 q1 q2 q3 q4 q)
def XM(wi:TI)(g:TG)(tb:TS):TS:=fun D σ H=>wi σ H fun J H1=>∃W:Nat→Nat→St→Hp→Prop,(∃m,W 0 m σ H1)∧∀i m σ H,W i m σ H→
 (J.stop i H∧D.nx σ H)∨(J.go i H∧∃N:St→Hp→Prop,(∀σ' H',N σ' H'→∃m',m'<m∧W (i+1) m' σ' H')∧∀x H',J.uu i H x H'→g x σ H' fun σ2 H2=>tb {D with nx:=N,ct:=N,bk:=D.nx} σ2 H2)
def wt(fp:List Addr)(h:Heap):List (Addr×Obj):=fp.filterMap fun b=>(h.get? b).map fun o=>(b,o)
theorem qs{fp:List Addr}{h:Heap}{b:Addr}{o:Obj}(hb:b∈fp)(e:h.get? b=some o):(b,o)∈wt fp h:=List.mem_filterMap.mpr ⟨b,hb,by rw[e];rfl⟩
theorem Gh{fp:List Addr}{h:Heap}{p:Addr×Obj}(hp:p∈wt fp h):p.1∈fp∧h.get? p.1=some p.2:=by
 obtain⟨b,hb,e⟩:=List.mem_filterMap.mp hp
 cases q:h.get? b with
 |none=>rw[q]at e;cases e
 |some o=>
  rw[q]at e
  have e':(b,o)=p:=a7 e
  subst e'
  exact⟨hb,q⟩
theorem Inv.pinned{pins:List (Addr×Obj)}{σ:St}{H:Hp}{s:Shared}{fp:List Addr}(I:Inv X pins σ H s)(hf: ∀b∈fp,uv X pins H b)(ho: ∀b∈fp,∃o,s.heap.get? b=some o∧∀v,o.data≠ .cell v):Inv X (pins++wt fp s.heap) σ H s:=
 I.Ew fun p hp=>(bP.mp hp).elim (fun z=>I.pin p (dJ _ z)) fun z=>by
  obtain⟨hb,e⟩:=Gh z
  obtain⟨f0,f1,f2,_⟩:=hf p.1 hb
  obtain⟨o,e',d⟩:=ho p.1 hb
  rw[e]at e';cases e'
  exact⟨e,f0,f1,f2,d⟩
theorem Inv.rL{pins pl:List (Addr×Obj)}{σ:St}{H:Hp}{s:Shared}(I:Inv X (pins++pl) σ H s):Inv X pins σ H s:=I.Ew fun p hp=>I.pin p (dJ _ (fV _ hp))
theorem gc{iter:Expr}{body:List Stmt}{wi:TI}{g:TG}{tb:TS}{pos:Pos}(hp:PassesOwn (model X.prog X.w) X.A X.env X.xe)(hc:X.calm=true)(hi:PI X tg iter wi)(hg:PG X tg g)(hb:Ge X body tb)
  (hs: ∀x,foldedSetIterable iter X.env x=pure x:=by intro _;rfl):PS X (.For tg iter body [] pos) (XM wi g tb):=by
 intro pins s σ H D I h
 refine wpAny_For (eQ (hi pins s σ H _ I h) fun v s1 h1=>eQ h1 fun XJ s2 h2=>?_) hs
 obtain⟨it,fp,tn,J,H2,e,I2,T,Wc,f2,W,⟨m0,w0⟩,turn⟩:=h2
 subst e
 have Dg: ∀{H':Hp},(∀b∈fp,H' b=none)→∀b∈fp,uv X pins H' b:=fun hn b hb=>⟨hn b hb,(f2 b hb).2⟩
 refine codeAny_forLoop_any (fun n s'=>∃i σ' H',Inv X pins σ' H' s'∧tn i s'.heap∧(∀b∈fp,H' b=none)∧W i n σ' H') ?_ m0 ⟨0,σ,H2,I2,Wc,fun b hb=>(f2 b hb).1,w0⟩
 rintro n s3 ⟨i,σ3,H3,I3,Wd,Gi,w3⟩
 rcases turn i n σ3 H3 w3 with⟨stop,qn⟩|⟨go,N,hN,step⟩
 ·refine jc hp (eQ (T.done X rfl rfl rfl hc i pins s3 σ3 H3 X.xe I3 (Dg Gi) Wd stop) fun r s4⟨hr,I4⟩=>?_)
  subst hr
  exact AJ ⟨σ3,H3,I4,qn⟩
 ·refine jc hp (eQ (T.item X rfl rfl rfl hc i pins s3 σ3 H3 X.xe I3 (Dg Gi) Wd go) fun r s4⟨u,hr,h4⟩=>?_)
  subst hr
  refine jc hp (eQ h4 fun _ s5⟨x,H5,I5,r5,y5,Sa,fr5⟩=>?_)
  have I5':=I5.pinned (Dg fr5) (T.obj _ _ Sa)
  refine jc hp (eQ (hg _ s5 σ3 H5 x u _ I5' r5 (step x H5 y5)) fun _ s6⟨σ6,H6,I6,q6⟩=>?_)
  refine jc hp (eQ (hb _ s6 σ6 H6 _ I6 q6) fun f s7 q7=>?_)
  have again: ∀{σ7:St}{H7:Hp},Inv X (pins++wt fp s5.heap) σ7 H7 s7→N σ7 H7→∃m,m<n∧∃i σ' H',Inv X pins σ' H' s7∧tn i s7.heap∧(∀b∈fp,H' b=none)∧W i m σ' H':=fun{σ7 H7} I7 n7=>by
   obtain⟨m',hm,w7⟩:=hN σ7 H7 n7
   refine⟨m',hm,i+1,σ7,H7,I7.rL,T.keep _ _ _ Sa fun b hb o e=>(I7.pin (b,o) (dJ _ (dJ _ (qs hb e)))).1,fun b hb=>?_,w7⟩
   obtain⟨o,e,d⟩:=T.obj _ _ Sa b hb
   exact(I7.pin (b,o) (dJ _ (dJ _ (qs hb e)))).2.1
  cases f with
  |next=>obtain⟨σ7,H7,I7,n7⟩:=q7;exact again I7 n7
  |cont=>obtain⟨σ7,H7,I7,n7⟩:=q7;exact again I7 n7
  |brk=>obtain⟨σ7,H7,I7,q7⟩:=q7;exact⟨σ7,H7,I7.rL,q7⟩
  |ret v=>obtain⟨x7,σ7,H7,I7,r7,q7⟩:=q7;exact⟨x7,σ7,H7,I7.rL,r7,q7⟩
end
theorem Jd{K:W.Frag}{a:Addr}{xs:List V}{g:TG}{tb:TS}{D:Ends}{σ:St}{H:Hp}(Pv:Nat→St→Hp→Prop)(h0:Pv 0 σ H)(hl: ∀i σ H,i≤xs.length→Pv i σ H→cy K H a xs)
  (hs: ∀i x σ H,xs[i]? =some x→Pv i σ H→g x σ H fun σ2 H2=>tb {D with nx:=Pv (i+1),ct:=Pv (i+1),bk:=D.nx} σ2 H2)(hd: ∀σ H,Pv xs.length σ H→D.nx σ H):
  ∃W:Nat→Nat→St→Hp→Prop,(∃m,W 0 m σ H)∧∀i m σ H,W i m σ H→
   ((Lv K a).stop i H∧D.nx σ H)∨((Lv K a).go i H∧∃N:St→Hp→Prop,(∀σ' H',N σ' H'→∃m',m'<m∧W (i+1) m' σ' H')∧∀x H',(Lv K a).uu i H x H'→g x σ H' fun σ2 H2=>tb {D with nx:=N,ct:=N,bk:=D.nx} σ2 H2):=by
 refine⟨fun i m σ H=>m=xs.length-i∧i≤xs.length∧Pv i σ H,⟨xs.length,by simp,bB _,h0⟩,?_⟩
 rintro i m σ H ⟨rfl,hi,p⟩
 have q:=hl i σ H hi p
 by_cases eI:i<xs.length
 ·refine .inr ⟨⟨xs,xs[i],q,by simp[eI]⟩,Pv (i+1),fun σ' H' p'=>⟨xs.length-(i+1),by omega,rfl,eI,p'⟩,fun x H' y=>?_⟩
  obtain⟨e,y⟩:=y
  subst e
  exact hs i x σ _ (y xs q) p
 ·have e:i=xs.length:=by omega
  subst e
  exact .inl ⟨⟨xs,q,aq _⟩,hd σ H p⟩
theorem Gj{lo:Int}{n:Nat}{g:TG}{tb:TS}{D:Ends}{σ:St}{H:Hp}(Pv:Nat→St→Hp→Prop)(h0:Pv 0 σ H)
  (hs: ∀i σ H,i<n→Pv i σ H→g (.int (lo+i)) σ H fun σ2 H2=>tb {D with nx:=Pv (i+1),ct:=Pv (i+1),bk:=D.nx} σ2 H2)(hd: ∀σ H,Pv n σ H→D.nx σ H):
  ∃W:Nat→Nat→St→Hp→Prop,(∃m,W 0 m σ H)∧∀i m σ H,W i m σ H→
   ((Ml lo n).stop i H∧D.nx σ H)∨((Ml lo n).go i H∧∃N:St→Hp→Prop,(∀σ' H',N σ' H'→∃m',m'<m∧W (i+1) m' σ' H')∧∀x H',(Ml lo n).uu i H x H'→g x σ H' fun σ2 H2=>tb {D with nx:=N,ct:=N,bk:=D.nx} σ2 H2):=by
 refine⟨fun i m σ H=>m=n-i∧i≤n∧Pv i σ H,⟨n,by simp,bB _,h0⟩,?_⟩
 rintro i m σ H ⟨rfl,hi,p⟩
 by_cases eI:i<n
 ·refine .inr ⟨eI,Pv (i+1),fun σ' H' p'=>⟨n-(i+1),by omega,rfl,eI,p'⟩,fun x H' y=>?_⟩
  obtain⟨e,y⟩:=y
  subst e y
  exact hs i σ _ eI p
 ·have e:i=n:=by omega
  subst e
  exact .inl ⟨aq _,hd σ H p⟩
end L2
namespace L2
open PySem PySem.Spec PyProof.Rows
abbrev R2:=V→V→Hp→VK→Prop
def rM(X:Cx)(f:Value→Value→Sem Value)(r:R2):Prop:=
 ∀(pins:List (Addr×Obj))(s:Shared)(σ:St)(H:Hp)(x y:V)(v u:Value)(Q:VK),Inv X pins σ H s→RelV x v→RelV y u→r x y H Q→
  wpAny (model X.prog X.w) X.A (f v u) (EP X pins σ Q) X.xe s
def XN(X:Cx)(f:Value→Sem Value)(r:V→Hp→VK→Prop):Prop:=
 ∀(pins:List (Addr×Obj))(s:Shared)(σ:St)(H:Hp)(x:V)(v:Value)(Q:VK),Inv X pins σ H s→RelV x v→r x H Q→
  wpAny (model X.prog X.w) X.A (f v) (EP X pins σ Q) X.xe s
def jI(X:Cx)(f:Value)(r:List V→Hp→VK→Prop):Prop:=
 ∀(pins:List (Addr×Obj))(s:Shared)(σ:St)(H:Hp)(xs:List V)(us:List Value)(Q:VK),Inv X pins σ H s→Vals xs us→r xs H Q→
  wpAny (model X.prog X.w) X.A (call f us) (EP X pins σ Q) X.xe s
def Ey(r:R2)(ta tb:TE):TE:=fun σ H Q=>ta σ H fun x H1=>tb σ H1 fun y H2=>r x y H2 Q
def tUn(r:V→Hp→VK→Prop)(ta:TE):TE:=fun σ H Q=>ta σ H fun x H1=>r x H1 Q
def rI(C:Int→Int→Prop)(g:Int→Int→V):R2:=fun x y H Q=>∃i j,x=.int i∧y=.int j∧C i j∧Q (g i j) H
def Oo(g:Int→Int→V):R2:=fun x y H Q=>∃i j,x=.int i∧y=.int j∧Q (g i j) H
def rU(g:Int→V):V→Hp→VK→Prop:=fun x H Q=>∃i,x=.int i∧Q (g i) H
section
variable{X:Cx}{a b c:Expr}{ta tb tc:TE}{pos:Pos}
theorem Ql(ha:PE X a ta)(hb:PE X b tb){pins:List (Addr×Obj)}{s:Shared}{σ:St}{H:Hp}{R:V→V→Hp→Prop}(I:Inv X pins σ H s)
  (h:ta σ H fun x H1=>tb σ H1 fun y H2=>R x y H2){Q:Value→Shared→Prop}{f:Value→Value→Sem Value}
  (hf: ∀v u s2 x y H2,Inv X pins σ H2 s2→RelV x v→RelV y u→R x y H2→wpAny (model X.prog X.w) X.A (f v u) Q X.xe s2):
  wpAny (model X.prog X.w) X.A (eval a X.env) (fun v s₁=>wpAny (model X.prog X.w) X.A (eval b X.env) (fun u s₂=>wpAny (model X.prog X.w) X.A (f v u) Q X.xe s₂) X.xe s₁) X.xe s:=by
 refine eQ (ha pins s σ H _ I h) fun v s1⟨x,H1,I1,r1,q1⟩=>?_
 refine eQ (hb pins s1 σ H1 _ I1 q1) fun u s2⟨y,H2,I2,r2,q2⟩=>?_
 exact hf v u s2 x y H2 I2 r1 r2 q2
theorem dF{op:Operator}{r:R2}(ho:rM X (binaryOp op) r)(ha:PE X a ta)(hb:PE X b tb):PE X (.BinOp a op b pos) (Ey r ta tb):=by
 intro pins s σ H Q I h
 exact wpAny_BinOp (Ql ha hb I h fun v u s2 x y H2 I2 rx ry q=>ho pins s2 σ H2 x y v u Q I2 rx ry q)
theorem TR{op:UnaryOp}{r:V→Hp→VK→Prop}(ho:XN X (unaryOp op) r)(ha:PE X a ta):PE X (.UnaryOp op a pos) (tUn r ta):=by
 intro pins s σ H Q I h
 exact UnaryOp_ (eQ (ha pins s σ H _ I h) fun v s1⟨x,H1,I1,r1,q1⟩=>ho pins s1 σ H1 x v Q I1 r1 q1)
theorem XO{f:Value→Value→Sem Value}{C:Int→Int→Prop}{g:Int→Int→Int}
  (rule: ∀(i j:Int)(t u:Tok)(s:Shared)(Q:Value→Shared→Prop)(E:Value→Shared→Prop),C i j→Q (.int (g i j) s.toks) {s with toks:=s.toks+1}→wpAny (model X.prog X.w) X.A (f (.int i t) (.int j u)) Q E s):
  rM X f (rI C fun i j=>.int (g i j)):=by
 intro pins s σ H x y v u Q I rx ry h
 obtain⟨i,j,rfl,rfl,hc,q⟩:=h
 obtain⟨t,rfl⟩:=rx
 obtain⟨t',rfl⟩:=ry
 exact rule i j t t' s _ _ hc ⟨.int (g i j),H,I.tok _,⟨_,rfl⟩,q⟩
theorem TU{f:Value→Value→Sem Value}{g:Int→Int→Int}
  (rule: ∀(i j:Int)(t u:Tok)(s:Shared)(Q:Value→Shared→Prop)(E:Value→Shared→Prop),Q (.int (g i j) s.toks) {s with toks:=s.toks+1}→wpAny (model X.prog X.w) X.A (f (.int i t) (.int j u)) Q E s):
  rM X f (Oo fun i j=>.int (g i j)):=by
 intro pins s σ H x y v u Q I rx ry h
 obtain⟨i,j,rfl,rfl,q⟩:=h
 obtain⟨t,rfl⟩:=rx
 obtain⟨t',rfl⟩:=ry
 exact rule i j t t' s _ _ ⟨.int (g i j),H,I.tok _,⟨_,rfl⟩,q⟩
theorem Mm{f:Value→Value→Sem Value}{g:Int→Int→Bool}
  (rule: ∀(i j:Int)(t u:Tok)(s:Shared)(Q:Value→Shared→Prop)(E:Value→Shared→Prop),Q (.bool (g i j)) s→wpAny (model X.prog X.w) X.A (f (.int i t) (.int j u)) Q E s):
  rM X f (Oo fun i j=>.bl (g i j)):=by
 intro pins s σ H x y v u Q I rx ry h
 obtain⟨i,j,rfl,rfl,q⟩:=h
 obtain⟨t,rfl⟩:=rx
 obtain⟨t',rfl⟩:=ry
 exact rule i j t t' s _ _ ⟨.bl (g i j),H,I,rfl,q⟩
def XQ(i j:Int):Prop:=0<j∧j<1073741824
def Qm(i j:Int):Prop:=(-(2^64)<i∧i<2^64)∨(-(2^64)<j∧j<2^64)
theorem Qm.ok{i j:Int}(h:Qm i j):IntMulOk i j:=by
 rcases h with⟨h1,h2⟩|⟨h1,h2⟩
 ·exact .of_left (intBits_le_64 h1 h2)
 ·exact .of_right (intBits_le_64 h1 h2)
theorem kF:rM X (binaryOp .Add) (Oo fun i j=>.int (i+j)):=TU fun _ _ _ _ _ _ _ q=>add_int q
theorem Qn:rM X (binaryOp .Sub) (Oo fun i j=>.int (i-j)):=TU fun _ _ _ _ _ _ _ q=>sub_int q
theorem jm:rM X (binaryOp .Mult) (rI Qm fun i j=>.int (i*j)):=XO fun _ _ _ _ _ _ _ hc q=>mul_int q hc.ok
theorem Mn:rM X (binaryOp .FloorDiv) (rI XQ fun i j=>.int (i / j)):=XO fun i j _ _ _ _ _ hc q=>by
 have h1:(0:Int)<j:=hc.1
 have h2:j<1073741824:=hc.2
 exact floordiv_int (by omega) (by rw[Int.fdiv_eq_ediv_of_nonneg i (by omega)];exact q) (.inl (PyProof.noPylong_small (by omega)))
theorem jV:rM X (binaryOp .Mod) (rI (fun _ j=>0<j) fun i j=>.int (i % j)):=XO fun i j _ _ _ _ _ hc q=>by
 have h1:(0:Int)<j:=hc
 exact mod_int' (by omega) (by rw[Int.fmod_eq_emod_of_nonneg i (by omega)];exact q)
theorem unI{f:Value→Sem Value}{g:Int→Int}
  (rule: ∀(i:Int)(t:Tok)(s:Shared)(Q:Value→Shared→Prop)(E:Value→Shared→Prop),Q (.int (g i) s.toks) {s with toks:=s.toks+1}→wpAny (model X.prog X.w) X.A (f (.int i t)) Q E s):
  XN X f (rU fun i=>.int (g i)):=by
 intro pins s σ H x v Q I rx h
 obtain⟨i,rfl,q⟩:=h
 obtain⟨t,rfl⟩:=rx
 exact rule i t s _ _ ⟨.int (g i),H,I.tok _,⟨_,rfl⟩,q⟩
theorem Qo:XN X (unaryOp .USub) (rU fun i=>.int (-i)):=unI fun _ _ _ _ _ q=>neg_int q
end
def TV:V→V→Bool
 |.fC,.fC=>true|.fC,.int _=>true|.int _,.fC=>true|.fC,.bl _=>true|.bl _,.fC=>true|.fC,.str _=>true|.str _,.fC=>true
 |.int _,.int _=>true|.bl _,.bl _=>true|.str _,.str _=>true|.Bp _,.Bp _=>true
 |.int _,.str _=>true|.str _,.int _=>true|.bl _,.str _=>true|.str _,.bl _=>true
 |_,_=>false
def rEq:R2:=fun x y H Q=>TV x y=true∧Q (.bl (decide (x=y))) H
def rNe:R2:=fun x y H Q=>TV x y=true∧Q (.bl (!decide (x=y))) H
theorem Ez{i j:Int}:decide (V.int i=V.int j)=(i==j):=by
 rw[iw]
 simp
theorem Je{i j:Bool}:decide (V.bl i=V.bl j)=(i==j):=by
 rw[iw]
 simp
theorem EA{i j:Str}:decide (V.str i=V.str j)=(i==j):=by
 rw[iw]
 simp
theorem EB{i j:Array UInt8}:decide (V.Bp i=V.Bp j)=(i.toList==j.toList):=by
 rw[iw]
 cases i
 cases j
 simp
section
variable{X:Cx}{a b c:Expr}{ta tb tc:TE}{pos:Pos}
theorem dD{pins:List (Addr×Obj)}{σ:St}{H:Hp}{s:Shared}{Q:VK}{k k':Bool}(I:Inv X pins σ H s)(q:Q (.bl k) H)(e:k=k'):EP X pins σ Q (.bool k') s:=by
 subst e
 exact⟨.bl k,H,I,rfl,q⟩
theorem iE:rM X (compareOp .Eq) rEq:=by
 intro pins s σ H x y v u Q I rx ry h
 obtain⟨hs,q⟩:=h
 cases x with
 |fC=>
  cases rx
  cases y with
  |fC=>cases ry;exact PySem.EqNone.eq_none_none (dD I q (by simp))
  |bl j=>cases ry;exact PySem.EqNone.eq_none_bool (dD I q (by simp))
  |int j=>obtain⟨t',rfl⟩:=ry;exact PySem.EqNone.eq_none_int (dD I q (by simp))
  |str j=>obtain⟨t',rfl⟩:=ry;exact PySem.EqNone.eq_none_str (dD I q (by simp))
  |_=>exact absurd (show false=true from hs) bb
 |bl i=>
  cases rx
  cases y with
  |fC=>cases ry;exact PySem.EqNone.eq_bool_none (dD I q (by simp))
  |bl j=>cases ry;exact eq_bool (dD I q Je)
  |str j=>obtain⟨t',rfl⟩:=ry;exact PySem.EqMixed.eq_bool_str (dD I q (by simp))
  |_=>exact absurd (show false=true from hs) bb
 |int i=>
  obtain⟨t,rfl⟩:=rx
  cases y with
  |fC=>cases ry;exact PySem.EqNone.eq_int_none (dD I q (by simp))
  |int j=>obtain⟨t',rfl⟩:=ry;exact eq_int (dD I q Ez)
  |str j=>obtain⟨t',rfl⟩:=ry;exact PySem.EqMixed.eq_int_str (dD I q (by simp))
  |_=>exact absurd (show false=true from hs) bb
 |str i=>
  obtain⟨t,rfl⟩:=rx
  cases y with
  |fC=>cases ry;exact PySem.EqNone.eq_str_none (dD I q (by simp))
  |bl j=>cases ry;exact PySem.EqMixed.eq_str_bool (dD I q (by simp))
  |int j=>obtain⟨t',rfl⟩:=ry;exact PySem.EqMixed.eq_str_int (dD I q (by simp))
  |str j=>obtain⟨t',rfl⟩:=ry;exact eq_str (dD I q EA)
  |_=>exact absurd (show false=true from hs) bb
 |Bp i=>
  obtain⟨t,rfl⟩:=rx
  cases y with
  |Bp j=>obtain⟨t',rfl⟩:=ry;exact W.eq_bytes (dD I q EB)
  |_=>exact absurd (show false=true from hs) bb
 |_=>cases y<;>exact absurd (show false=true from hs) bb
theorem TX:rM X (compareOp .NotEq) rNe:=by
 intro pins s σ H x y v u Q I rx ry h
 obtain⟨hs,q⟩:=h
 cases x with
 |fC=>
  cases rx
  cases y with
  |fC=>cases ry;exact PySem.EqNone.ne_none_none (dD I q (by simp))
  |bl j=>cases ry;exact PySem.EqNone.ne_none_bool (dD I q (by simp))
  |int j=>obtain⟨t',rfl⟩:=ry;exact PySem.EqNone.ne_none_int (dD I q (by simp))
  |str j=>obtain⟨t',rfl⟩:=ry;exact PySem.EqNone.ne_none_str (dD I q (by simp))
  |_=>exact absurd (show false=true from hs) bb
 |bl i=>
  cases rx
  cases y with
  |fC=>cases ry;exact PySem.EqNone.ne_bool_none (dD I q (by simp))
  |bl j=>cases ry;exact ne_bool (dD I q (ba not Je))
  |str j=>obtain⟨t',rfl⟩:=ry;exact PySem.EqMixed.ne_bool_str (dD I q (by simp))
  |_=>exact absurd (show false=true from hs) bb
 |int i=>
  obtain⟨t,rfl⟩:=rx
  cases y with
  |fC=>cases ry;exact PySem.EqNone.ne_int_none (dD I q (by simp))
  |int j=>obtain⟨t',rfl⟩:=ry;exact ne_int (dD I q (ba not Ez))
  |str j=>obtain⟨t',rfl⟩:=ry;exact PySem.EqMixed.ne_int_str (dD I q (by simp))
  |_=>exact absurd (show false=true from hs) bb
 |str i=>
  obtain⟨t,rfl⟩:=rx
  cases y with
  |fC=>cases ry;exact PySem.EqNone.ne_str_none (dD I q (by simp))
  |bl j=>cases ry;exact PySem.EqMixed.ne_str_bool (dD I q (by simp))
  |int j=>obtain⟨t',rfl⟩:=ry;exact PySem.EqMixed.ne_str_int (dD I q (by simp))
  |str j=>obtain⟨t',rfl⟩:=ry;exact ne_str (dD I q (ba not EA))
  |_=>exact absurd (show false=true from hs) bb
 |Bp i=>
  obtain⟨t,rfl⟩:=rx
  cases y with
  |Bp j=>obtain⟨t',rfl⟩:=ry;exact W.ne_bytes (dD I q (ba not EB))
  |_=>exact absurd (show false=true from hs) bb
 |_=>cases y<;>exact absurd (show false=true from hs) bb
theorem wu:rM X (compareOp .Lt) (Oo fun i j=>.bl (decide (i<j))):=Mm fun _ _ _ _ _ _ _ q=>lt_int q
theorem uc:rM X (compareOp .LtE) (Oo fun i j=>.bl (decide (i≤j))):=Mm fun _ _ _ _ _ _ _ q=>le_int q
theorem Oq:rM X (compareOp .Gt) (Oo fun i j=>.bl (decide (j<i))):=Mm fun _ _ _ _ _ _ _ q=>gt_int q
theorem Ot:rM X (compareOp .GtE) (Oo fun i j=>.bl (decide (j≤i))):=Mm fun _ _ _ _ _ _ _ q=>ge_int q
theorem cW(b:Expr){op:CmpOp}(h:op≠ .In:=by decide)(h2:op≠ .NotIn:=by decide):behindInMarks op b=false:=by
 have e1:(op==CmpOp.In)=false:=by cases op<;>first|rfl|exact absurd rfl h
 have e2:(op==CmpOp.NotIn)=false:=by cases op<;>first|rfl|exact absurd rfl h2
 cases b<;>simp[behindInMarks,e1,e2]
theorem rN{op:CmpOp}{r:R2}(ho:rM X (compareOp op) r)(ha:PE X a ta)(hb:PE X b tb)(hm:behindInMarks op b=false):PE X (.Compare a [op] [b] pos) (Ey r ta tb):=by
 intro pins s σ H Q I h
 exact wpAny_Compare1 (Ql ha hb I h fun v u s2 x y H2 I2 rx ry q=>ho pins s2 σ H2 x y v u Q I2 rx ry q) hm
def EC(t:TE):TT:=fun σ H Q=>t σ H fun x H'=>∃k,x=.bl k∧Q k H'
theorem cJ{op:CmpOp}{r:R2}(ho:rM X (compareOp op) r)(ha:PE X a ta)(hb:PE X b tb)(hm:behindInMarks op b=false):PT X (.Compare a [op] [b] pos) (EC (Ey r ta tb)):=by
 intro pins s σ H Q I h
 refine wpAny_isTrue_Compare1 (eQ (ha pins s σ H _ I h) fun v s1⟨x,H1,I1,r1,q1⟩=>eQ (hb pins s1 σ H1 _ I1 q1) fun u s2⟨y,H2,I2,r2,q2⟩=>
  eQ (ho pins s2 σ H2 x y v u _ I2 r1 r2 q2) fun c s3⟨z,H3,I3,r3,k,e,q3⟩=>?_) hm
 subst e
 cases r3
 exact eC ⟨H3,I3,q3⟩
def Jf(r r':R2)(ta tb tc:TE):TE:=fun σ H Q=>ta σ H fun x H1=>tb σ H1 fun y H2=>r x y H2 fun z H3=>∃k,z=.bl k∧
 (if k=true then tc σ H3 fun w' H4=>r' y w' H4 Q else Q (.bl false) H3)
theorem Bu{op Qp:CmpOp}{r r':R2}(ho:rM X (compareOp op) r)(zJ:rM X (compareOp Qp) r')(ha:PE X a ta)(hb:PE X b tb)(hc:PE X c tc)
  (hm:lastMarks [op,Qp] [b,c]=false:=by with_unfolding_all rfl):PE X (.Compare a [op,Qp] [b,c] pos) (Jf r r' ta tb tc):=by
 intro pins s σ H Q I h
 refine Compare_chain (eQ (ha pins s σ H _ I h) fun v s1⟨x,H1,I1,r1,q1⟩=>chain_link (eQ (hb pins s1 σ H1 _ I1 q1) fun u s2⟨y,H2,I2,r2,q2⟩=>
  eQ (ho pins s2 σ H2 x y v u _ I2 r1 r2 q2) fun d s3⟨z,H3,I3,r3,k,e,q3⟩=>?_)) hm
 subst e
 cases r3
 refine eC ?_
 cases k with
 |false=>exact ite_ff ⟨.bl false,H3,I3,rfl,q3⟩
 |true=>exact ite_tt (chain_last (eQ (hc pins s3 σ H3 _ I3 q3) fun w' s4⟨z',H4,I4,r4,q4⟩=>zJ pins s4 σ H4 y z' u w' Q I4 r2 r4 q4))
theorem Bv{op Qp:CmpOp}{r r':R2}(ho:rM X (compareOp op) r)(zJ:rM X (compareOp Qp) r')(ha:PE X a ta)(hb:PE X b tb)(hc:PE X c tc)
  (hm:lastMarks [op,Qp] [b,c]=false:=by with_unfolding_all rfl):PT X (.Compare a [op,Qp] [b,c] pos) (EC (Jf r r' ta tb tc)):=by
 intro pins s σ H Q I h
 refine isTrue_chain (eQ (ha pins s σ H _ I h) fun v s1⟨x,H1,I1,r1,q1⟩=>test_link (eQ (hb pins s1 σ H1 _ I1 q1) fun u s2⟨y,H2,I2,r2,q2⟩=>
  eQ (ho pins s2 σ H2 x y v u _ I2 r1 r2 q2) fun d s3⟨z,H3,I3,r3,k,e,q3⟩=>?_)) hm
 subst e
 cases r3
 refine eC ?_
 cases k with
 |false=>
  obtain⟨k',e',q'⟩:=q3
  cases e'
  exact ite_ff ⟨H3,I3,q'⟩
 |true=>
  refine ite_tt (test_last (eQ (hc pins s3 σ H3 _ I3 q3) fun w' s4⟨z',H4,I4,r4,q4⟩=>eQ (zJ pins s4 σ H4 y z' u w' _ I4 r2 r4 q4) fun d' s5⟨z2,H5,I5,r5,k2,e2,q5⟩=>?_))
  subst e2
  cases r5
  exact eC ⟨H5,I5,q5⟩
theorem zO:(sizeLine:Nat)<2^63:=by rw[bD];decide
theorem vals1{x:V}{us:List Value}(r:Vals [x] us): ∃u,us=[u]∧RelV x u:=by
 cases r with
 |cons r1 r2=>cases r2;exact⟨_,rfl,r1⟩
end
end L2
namespace L2
open PySem PySem.Spec PyProof.Rows
structure Dh(h:Heap)(x dx C:Addr)(mA:Str→Option Value):Prop where
 obj:h.get? x=some (W.instObj C dx)
 ns:h.Ns1 dx mA
 ne:dx≠x
theorem Gk{h:Heap}{dx:Addr}{mA:Str→Option Value}(n:h.Ns1 dx mA): ∃od,h.get? dx=some od∧∀name,W.lookIn name od=some (mA name):=by
 obtain⟨o,es,ep,ho,hd,hk,_,hm⟩:=n
 refine⟨o,ho,fun name=>?_⟩
 have e:=hm name
 unfold nsFind findBy at e
 rw[←Array.find?_toList]at e
 unfold W.lookIn
 rw[hd]
 dsimp only
 split
 ·rename_i y q
  rw[q]at e
  exact ba some e
 ·rename_i q
  rw[q]at e
  have a:es.toList.any (·.refKey)=false:=by
   rw[List.any_eq_false]
   intro y hy
   obtain⟨z,t,Qq⟩:=hk y (Array.mem_toList_iff.mp hy)
   simp[DictEntry.refKey,Qq]
  have a': ¬es.toList.any (·.refKey)=true:=by rw[a];exact bb
  rw[aI a']
  exact ba some e
theorem Dh.look{h:Heap}{x dx C:Addr}{mA:Str→Option Value}(I:Dh h x dx C mA): ∃od,W.InstAt h x (W.instObj C dx) C (some od)∧∀name,W.lookIn name od=some (mA name):=
 let ⟨od,ho,hl⟩:=Gk I.ns
 ⟨od,⟨I.obj,rfl,rfl,ho⟩,hl⟩
section
variable{prog:Program}{w:World}{A:Around}{E:Value→Shared→Prop}{s:Shared}{K:W.Frag}{x dx C f:Addr}{mA:Str→Option Value}{name:Str}{v:Value}
theorem get_map{expr:Bool}{Q:Value→Shared→Prop}(X:K.In s.heap)(I:Dh s.heap x dx C mA)(hg:W.plainGet K C name=true)(hh:W.hasDictIn K C=true)
  (ha:W.findIn K (.ref C) name=some none)(hv:mA name=some v)(vz:W.handedIn v=true)(h:Q v {s with toks:=s.toks+1}):
  wpAny (model prog w) A (getAttr (.ref x) name expr) Q E s:=by
 obtain⟨od,J,hl⟩:=I.look
 exact W.get_value X J (W.plainGet_of hg).1 (W.findObj_own hh ha rfl (by rw[hl,hv])) vz h
theorem Jg{pl:Sem Bool}{Q:Value×List Value→Shared→Prop}(X:K.In s.heap)(I:Dh s.heap x dx C mA)(hg:W.plainGet K C name=true)
  (hf:W.findIn K (.ref C) name=some (some (.ref f)))(ht:W.isFn K (.ref f)=true)(hv:mA name=none)(h:Q (.ref f,[.ref x]) s):
  wpAny (model prog w) A (getMethod (.ref x) name pl) Q E s:=by
 obtain⟨od,J,hl⟩:=I.look
 exact W.method_fn X J (W.plainGet_of hg).1 (W.plainGet_of hg).2 hf (cV.mp ht) (by show(W.lookIn name od).map (·.isSome)=some false;rw[hl,hv];rfl) h
theorem Mo{ns:List Str}{Q:Unit→Shared→Prop}(X:K.In s.heap)(I:Dh s.heap x dx C mA)
  (hs:W.findIn K (.ref C) "__setattr__"=some (some (.builtin "object.__setattr__")))(hp:W.plainOver K C=true)(ht:W.takerIn K C name=some none)(hh:W.hasDictIn K C=true)
  (hw:PySem.Within mA ns)(hsz:ns.length≤sizeLine)
  (h: ∀h',Dh h' x dx C (fun y=>if y=name then some v else mA y)→Heap.SameBut dx s.heap h'→Q () {s with heap:=h',toks:=s.toks+2}):
  wpAny (model prog w) A (setAttr (.ref x) name v) Q E s:=by
 obtain⟨od,J,hl⟩:=I.look
 refine W.set_plain X J hs (W.osa_open (s:={s with toks:=s.toks+1}) (r:=none) X J hp ht fun b=>?_)
 obtain⟨cd,hc,Ll⟩:=W.any_some hh
 have hx:s.heap.get? x=some ⟨.ref C,some dx,.plain,#[]⟩:=I.obj
 refine wpAny_bind (aF (wpAny_bind (wpAny_bind (wpAny_loadPart hx (wpAny_bind (W.Looks.here (s:={s with toks:=s.toks+1}) (W.looks_clsIn X hc) ?_))))))
 rw[Ll]
 refine aF (a:=some dx) (wpAny_bind (aF (wpAny_bind ?_)))
 refine wpAny_nsSet1 (s:={s with toks:=s.toks+1}) I.ns fun h' hn2 PJ=>?_
 obtain⟨oD,esD,epD,hoD,hdD,Sb⟩:=hn2.count (PySem.Within.cons name v hw)
 refine wpAny_bind (wpAny_lookBehind hoD (by rw[hdD];exact pastItsLine_dict (bW Sb (by rw[aC];omega))) ?_)
 exact aF (h _ ⟨(PJ.2 _ (iM I.ne)).trans I.obj,hn2,I.ne⟩ PJ)
theorem Jh{R:Result→Shared→Prop}{vs:List Value}{kw:List (Str×Value)}(X:K.In s.heap)(hm:W.makesIn K C=true)
  (hi:W.findIn K (.ref C) "__init__"=some (some (.ref f)))(hf:W.typeIn K (.ref f)=some (.type "function"))
  (h:codeAny (model prog w) (A.under (.builtin "type.__call__" ⟨.ref C::vs,kw⟩)) (.call (.ref f) ⟨.ref (s.heap.objs.size+1)::vs,kw⟩) (W.InitBack (s.heap.objs.size+1) R)
   {s with heap:=(s.heap.push W.emptyDict).push (W.instObj C s.heap.objs.size)}):
  codeAny (model prog w) A (.call (.ref C) ⟨vs,kw⟩) R s:=by
 obtain⟨hh,g,d,t,os⟩:=s
 exact W.make_core (W.makes_of X hm) (W.looks_findIn X hi) (fun self=>W.bind_fn X self hf) (.inl rfl) h
end
def et(f:Str)(v:V):List (Str×V)→List (Str×V)
 |[]=>[(f,v)]
 |(g,x)::r=>if g=f then(g,v)::r else(g,x)::et f v r
theorem ud(f g:Str)(v:V): ∀fs:List (Str×V),(et f v fs).lookup g=if g=f then some v else fs.lookup g
 |[]=>by
  show List.lookup g [(f,v)]=_
  by_cases h:g=f
  ·have hb:(g==f)=true:=cV.mpr h
   simp only[List.lookup,hb,aO h]
  ·have hb:(g==f)=false:=cO.mpr h
   simp only[List.lookup,hb,aI h]
 |(k,x)::r=>by
  have ih:=ud f g v r
  rw[show et f v ((k,x)::r)=(if k=f then(k,v)::r else(k,x)::et f v r)from rfl]
  by_cases hk:k=f
  ·rw[aO hk]
   by_cases h:g=k
   ·have hb:(g==k)=true:=cV.mpr h
    simp only[List.lookup,hb,aO (h.trans hk)]
   ·have hb:(g==k)=false:=cO.mpr h
    simp only[List.lookup,hb,aI (fun e:g=f=>h (e.trans hk.symm))]
  ·rw[aI hk]
   by_cases h:g=k
   ·have hb:(g==k)=true:=cV.mpr h
    simp only[List.lookup,hb,aI (fun e:g=f=>hk (h.symm.trans e))]
   ·have hb:(g==k)=false:=cO.mpr h
    simp only[List.lookup,hb]
    exact ih
theorem sX(f:Str)(v:V): ∀fs:List (Str×V),f∈(et f v fs).map (·.1)∧∀g,g∈fs.map (·.1)→g∈(et f v fs).map (·.1)
 |[]=>⟨by simp[et],fun g h=>by simp at h⟩
 |(k,x)::r=>by
  obtain⟨i1,i2⟩:=sX f v r
  rw[show et f v ((k,x)::r)=(if k=f then(k,v)::r else(k,x)::et f v r)from rfl]
  by_cases hk:k=f
  ·rw[aO hk]
   subst hk
   exact⟨by simp,fun g h=>by simpa using h⟩
  ·rw[aI hk]
   refine⟨?_,fun g h=>?_⟩
   ·rw[a6]
    exact bu _ i1
   ·rw[a6]at h⊢
    rcases aH.mp h with e|e
    ·exact aH.mpr (.inl e)
    ·exact bu _ (i2 g e)
theorem ue(f:Str)(v:V): ∀fs:List (Str×V),(et f v fs).length≤fs.length+1
 |[]=>by simp[et]
 |(k,x)::r=>by
  have ih:=ue f v r
  rw[show et f v ((k,x)::r)=(if k=f then(k,v)::r else(k,x)::et f v r)from rfl]
  by_cases hk:k=f
  ·rw[aO hk,aC,aC];omega
  ·rw[aI hk,aC,aC];omega
theorem xP.some_of{v:V}{o:Option Value}(r:xP (some v) o): ∃u,o=some u∧RelV v u:=by
 cases o with
 |none=>exact(show False from r).elim
 |some u=>exact⟨u,rfl,r⟩
theorem xP.none_of{o:Option Value}(r:xP none o):o=none:=by
 cases o with
 |none=>rfl
 |some u=>exact(show False from r).elim
theorem Gm{v:V}{u:Value}(r:RelV v u):W.handedIn u=true:=by
 cases v with
 |fC=>cases (show u=Value.none from r);rfl
 |bl b=>cases (show u=Value.bool b from r);rfl
 |int i=>obtain⟨t,e⟩:=(show∃t,u=Value.int i t from r);cases e;rfl
 |str x=>obtain⟨t,e⟩:=(show∃t,u=Value.str x t from r);cases e;rfl
 |Bp b=>obtain⟨t,e⟩:=(show∃t,u=Value.bytes b t from r);cases e;rfl
 |To b=>obtain⟨t,e⟩:=(show∃t,u=Value.float b t from r);cases e;rfl
 |ref a=>cases (show u=Value.ref a from r);rfl
 |ty n=>cases (show u=Value.type n from r);rfl
section
variable{P:Program}{w:World}{H H':Hp}{h h':Heap}{a C dx:Addr}{fs R7:List (Str×V)}
theorem zP(eZ:rJ P w H h)(e:H a=some (.ins C dx fs)): ∃mA,Dh h a dx C mA∧(∀f,xP (fs.lookup f) (mA f))∧PySem.Within mA (fs.map (·.1))∧fs.length≤1000∧H dx=some (.own a):=by
 obtain⟨d,z,ne,ob,mA,n,r,q⟩:=(show iD P w H h a (.ins C dx fs)from eZ a _ e)
 exact⟨mA,⟨ob,n,ne⟩,r,q,z,d⟩
end
structure Bw(K:W.Frag)(C:Addr):Prop where
 pg:W.plainGet K C Str.empty=true
 hd:W.hasDictIn K C=true
 po:W.plainOver K C=true
 sa:W.findIn K (.ref C) "__setattr__"=some (some (.builtin "object.__setattr__"))
theorem Bw.get{K:W.Frag}{C:Addr}(c:Bw K C)(f:Str):W.plainGet K C f=true:=c.pg
def ez(K:W.Frag)(C:Addr)(f:Str):Prop:=W.findIn K (.ref C) f=some none
theorem ez.TY{K:W.Frag}{C:Addr}{f:Str}(n:ez K C f):W.takerIn K C f=some none:=by
 unfold W.takerIn
 rw[show W.findIn K (.ref C) f=some none from n]
 rfl
structure Meth(K:W.Frag)(C:Addr)(m:Str)(f:Addr):Prop where
 at_:W.findIn K (.ref C) m=some (some (.ref f))
 fn:W.isFn K (.ref f)=true
 kp:W.keepIn K (.ref f)=true
section
variable{X:Cx}{pins:List (Addr×Obj)}{σ:St}{H:Hp}{s:Shared}{a C dx:Addr}{fs:List (Str×V)}{f:Str}{v:V}{A:Around}{E:Value→Shared→Prop}
theorem wx{b:Bool}{Q:Value→Shared→Prop}(I:Inv X pins σ H s)(e:H a=some (.ins C dx fs))(c:Bw X.K C)(n:ez X.K C f)(l:fs.lookup f=some v)
  (h: ∀u s',Inv X pins σ H s'→RelV v u→Q u s'):wpAny (model X.prog X.w) A (getAttr (.ref a) f b) Q E s:=by
 obtain⟨mA,O,r,_,_,_⟩:=zP I.eZ e
 obtain⟨u,hu,ru⟩:=xP.some_of (v:=v) (o:=mA f) (by rw[←l];exact r f)
 exact get_map I.Ck O (c.get f) c.hd n hu (Gm ru) (h u _ (I.tok _) ru)
theorem qt{m:Str}{g:Addr}{pl:Sem Bool}{Q:Value×List Value→Shared→Prop}(I:Inv X pins σ H s)(e:H a=some (.ins C dx fs))(c:Bw X.K C)(k:Meth X.K C m g)(l:fs.lookup m=none)
  (h:Q (.ref g,[.ref a]) s):wpAny (model X.prog X.w) A (getMethod (.ref a) m pl) Q E s:=by
 obtain⟨mA,O,r,_,_,_⟩:=zP I.eZ e
 have hn:mA m=none:=xP.none_of (by rw[←l];exact r m)
 exact Jg I.Ck O (c.get m) k.at_ k.fn hn h
theorem wy{y:V}{u:Value}{Q:Unit→Shared→Prop}(I:Inv X pins σ H s)(e:H a=some (.ins C dx fs))(c:Bw X.K C)(n:ez X.K C f)(hl:fs.length<1000)(ry:RelV y u)
  (h: ∀s',Inv X pins σ (upd H a (.ins C dx (et f y fs))) s'→Q () s'):wpAny (model X.prog X.w) A (setAttr (.ref a) f u) Q E s:=by
 obtain⟨mA,O,r,wi,_,ho⟩:=zP I.eZ e
 have hz:(fs.map (·.1)).length≤sizeLine:=by rw[ae,bD];omega
 refine Mo I.Ck O c.sa c.po n.TY c.hd wi hz fun h' O' sb=>h _ ?_
 have hd: ∃o,h'.get? dx=some o:=let ⟨o,_,_,e',_⟩:=O'.ns;⟨o,e'⟩
 refine I.write (x:=a) (e:=dx) (by rw[e];exact True.intro) (.inr ho) (fun b q hb z=>(sb.2 b hb).trans z) hd ?_
 refine⟨by rw[aE O.ne];exact ho,?_,O.ne,O'.obj,_,O'.ns,fun g=>?_,fun g hg=>?_⟩
 ·have:=ue f y fs;omega
 ·show xP ((et f y fs).lookup g) (if g=f then some u else mA g)
  rw[ud]
  by_cases q:g=f
  ·rw[aO q,aO q];exact ry
  ·rw[aI q,aI q];exact r g
 ·by_cases q:g=f
  ·rw[q];exact(sX f y fs).1
  ·refine(sX f y fs).2 g (wi g fun z=>hg ?_)
   show(if g=f then some u else mA g)=none
   rw[aI q];exact z
theorem Inv.made(I:Inv X pins σ H s):Inv X pins σ (upd (upd H s.heap.objs.size (.own (s.heap.objs.size+1))) (s.heap.objs.size+1) (.ins C s.heap.objs.size []))
  {s with heap:=(s.heap.push W.emptyDict).push (W.instObj C s.heap.objs.size)}:=by
 have e1:(s.heap.push W.emptyDict).get? s.heap.objs.size=some W.emptyDict:=aZ s.heap rfl
 have e2:((s.heap.push W.emptyDict).push (W.instObj C s.heap.objs.size)).get? (s.heap.objs.size+1)=some (W.instObj C s.heap.objs.size):=by
  have:=aZ (s.heap.push W.emptyDict) (o:=W.instObj C s.heap.objs.size) rfl
  rwa [cD]at this
 have e3:(s.heap.push W.emptyDict).Ns s.heap.objs.size (fun _=>none):=⟨W.emptyDict,#[],_,e1,rfl,(fun e he=>absurd he (by simp)),fun _=>rfl⟩
 have I1:=I.laid (a:=s.heap.objs.size) (o:=.own (s.heap.objs.size+1)) (h':=s.heap.push W.emptyDict) (t':=s.toks) (fun b u q=>aw _ q) (aq _) ⟨_,e1⟩
 refine I1.laid (a:=s.heap.objs.size+1) (o:=.ins C s.heap.objs.size []) (t':=s.toks) (fun b u q=>aw _ q) (pj (cD _ _)) ?_
 have ne:s.heap.objs.size≠s.heap.objs.size+1:=br (mH _)
 refine⟨by rw[aE ne,au],bB _,ne,e2,fun _=>none,(Heap.Ns1.of_empty e3).at fun o q=>aw _ q,fun _=>True.intro,fun y hy=>absurd rfl hy⟩
theorem Mp{prog:Program}{w:World}{env:Env}{e:Expr}{f:Str}{pos:Pos}{s:Shared}{Q:Value→Shared→Prop}(hb:attributeBase e f env (eval e env)=eval e env)
  (h:wpAny (model prog w) A (eval e env) (fun o s₁=>wpAny (model prog w) A (getAttr o f true) Q E s₁) E s):wpAny (model prog w) A (eval (.Attribute e f pos) env) Q E s:=
 Attribute_any_ h (by rw[arm_eval_Attribute,hb])
end
def Mq(K:W.Frag)(ta:TE)(f:Str):TE:=fun σ H Q=>ta σ H fun x H1=>∃a C dx fs v,x=.ref a∧H1 a=some (.ins C dx fs)∧Bw K C∧ez K C f∧fs.lookup f=some v∧Q v H1
def XR(K:W.Frag)(ta tv:TE)(f:Str):TS:=fun D σ H=>tv σ H fun y H1=>ta σ H1 fun x H2=>∃a C dx fs,x=.ref a∧H2 a=some (.ins C dx fs)∧Bw K C∧ez K C f∧fs.length<1000∧
 D.nx σ (upd H2 a (.ins C dx (et f y fs)))
def TZ(X:Cx)(op:Operator)(rd:V→V→Hp→VK→Prop):Prop:=
 ∀(pins:List (Addr×Obj))(s:Shared)(σ:St)(H:Hp)(x y:V)(u v:Value)(Q:VK),Inv X pins σ H s→RelV x u→RelV y v→rd x y H Q→wpAny (model X.prog X.w) X.A (inplaceOp op u v) (EP X pins σ Q) X.xe s
def Mr(K:W.Frag)(ta tv:TE)(rd:V→V→Hp→VK→Prop)(f:Str):TS:=fun D σ H=>ta σ H fun x H1=>∃a C dx fs v,x=.ref a∧H1 a=some (.ins C dx fs)∧Bw K C∧ez K C f∧fs.lookup f=some v∧
 tv σ H1 fun y H2=>rd v y H2 fun z H3=>∃Di R7,H3 a=some (.ins C Di R7)∧R7.length<1000∧D.nx σ (upd H3 a (.ins C Di (et f z R7)))
section
variable{X:Cx}{o e value:Expr}{f:Str}{pos pos' ur:Pos}{ta tv:TE}
theorem bz(he:PE X e ta)(hb:attributeBase e f X.env (eval e X.env)=eval e X.env):PE X (.Attribute e f pos) (Mq X.K ta f):=by
 intro pins s σ H Q I h
 refine Mp hb (eQ (he pins s σ H _ I h) fun u s1⟨x,H1,I1,rx,a,C,dx,fs,v,ex,ea,c,n,l,q⟩=>?_)
 subst ex
 obtain rfl:u=Value.ref a:=rx
 exact wx I1 ea c n l fun u' s2 I2 ru=>⟨v,H1,I2,ru,q⟩
theorem fu(ha:PE X o ta)(hv:PE X value tv)(hs:swapsWith value (some (.Attribute o f pos')) pos.line X.env=pure false):PS X (.Assign [.Attribute o f pos'] value pos) (XR X.K ta tv f):=by
 intro pins s σ H D I h
 refine plainObj_wpAny_Assign_Attribute (eQ (hv pins s σ H _ I h) fun u s1⟨y,H1,I1,ry,q⟩=>eQ (ha pins s1 σ H1 _ I1 q) fun ov s2⟨x,H2,I2,rx,a,C,dx,fs,ex,ea,c,n,l,q2⟩=>?_) hs
 subst ex
 obtain rfl:ov=Value.ref a:=rx
 exact wy I2 ea c n l ry fun s3 I3=>⟨σ,_,I3,q2⟩
theorem Gn{op:Operator}{rd:V→V→Hp→VK→Prop}(ha:PE X o ta)(hv:PE X value tv)(hop:TZ X op rd):PS X (.AugAssign (.Attribute o f ur) op value pos) (Mr X.K ta tv rd f):=by
 intro pins s σ H D I h
 refine wpAny_AugAssign_AttributeAny (eQ (ha pins s σ H _ I h) fun ov s1⟨x,H1,I1,rx,a,C,dx,fs,v,ex,ea,c,n,l,q⟩=>?_)
 subst ex
 obtain rfl:ov=Value.ref a:=rx
 refine wx I1 ea c n l fun u s2 I2 ru=>eQ (hv pins s2 σ H1 _ I2 q) fun w3 s3⟨y,H2,I3,ry,q3⟩=>eQ (hop pins s3 σ H2 v y u w3 _ I3 ru ry q3) fun w4 s4⟨z,H3,I4,rz,Di,R7,ea',l',q4⟩=>?_
 exact wy I4 ea' c n l' rz fun s5 I5=>⟨σ,_,I5,q4⟩
def XS:V→V→Hp→VK→Prop:=fun x y H Q=>∃i j,x=.int i∧y=.int j∧Q (.int (i+j)) H
theorem Qr:TZ X .Add XS:=by
 rintro pins s σ H x y u v Q I rx ry ⟨i,j,rfl,rfl,q⟩
 obtain⟨t,rfl⟩:=(show∃t,u=Value.int i t from rx)
 obtain⟨t',rfl⟩:=(show∃t',v=Value.int j t' from ry)
 exact PyProof.Rows.iadd_int ⟨.int (i+j),H,I.tok _,⟨_,rfl⟩,q⟩
theorem Ou{pl:Sem Bool}{m:Str}{apos:Pos}{args:List Expr}{pins:List (Addr×Obj)}{s:Shared}{σ:St}{H:Hp}{Q:Value→Shared→Prop}{te:TE}(he:PE X e te)(I:Inv X pins σ H s)
  (h:te σ H fun x H1=>∃a C dx fs g,x=.ref a∧H1 a=some (.ins C dx fs)∧Bw X.K C∧Meth X.K C m g∧fs.lookup m=none∧
   ∀s1,Inv X pins σ H1 s1→wpAny (model X.prog X.w) X.A (callWith pos (.ref g) [.ref a] (backTo pos (starEach args X.env)) (backToKw pos (keywordEach [] X.env))) Q X.xe s1)
  (ht:eval (.Call (.Attribute e m apos) args [] pos) X.env=(do
   let ov←eval e X.env
   standAt apos.atName
   let (f,first) ←holding [ov] (getMethod ov m pl)
   callWith pos f first (backTo pos (starEach args X.env)) (backToKw pos (keywordEach [] X.env)))):
  wpAny (model X.prog X.w) X.A (eval (.Call (.Attribute e m apos) args [] pos) X.env) Q X.xe s:=by
 refine W.methodCall_KW (pl:=pl) (eQ (he pins s σ H _ I h) fun u s1⟨x,H1,I1,rx,a,C,dx,fs,g,ex,ea,c,k,l,q⟩=>?_) ht
 subst ex
 obtain rfl:u=Value.ref a:=rx
 exact qt I1 ea c k l (q s1 I1)
end
end L2
namespace L2
open PySem PySem.Spec PyProof.Rows
structure dY(k:Nat)(A:Around):Prop where
 hd:A.handled=none
 dp:A.depth+3*k+5<recursionLimit
 un:A.units+16*k+200<cLine
theorem dY.mono{j k:Nat}{A:Around}(r:dY k A)(h:j≤k):dY j A:=⟨r.hd,by have:=r.dp;omega,by have:=r.un;omega⟩
theorem dY.deeper{k:Nat}{A:Around}(r:dY (k+1) A)(env:Env):dY k (A.deeper env):=
 ⟨r.hd,by have:=r.dp;show A.depth+1+3*k+5<_;omega,by have:=r.un;show A.units+3+16*k+200<_;omega⟩
theorem Dj{A:Around}{C:Addr}{us:List Value}{kw:List (Str×Value)}:(A.under (.builtin "type.__call__" ⟨.ref C::us,kw⟩)).depth=A.depth+1:=by
 first|rfl|simp[Around.under,Code.weight,Code.isCreation,Code.isGuard,Code.isCaller,Code.frames,Code.isFrame,guardIds]
theorem Dk{A:Around}{C:Addr}{us:List Value}{kw:List (Str×Value)}:(A.under (.builtin "type.__call__" ⟨.ref C::us,kw⟩)).units=A.units+1:=by
 first|rfl|simp[Around.under,Code.cUnits,Code.frames,Code.isFrame]
theorem dY.make{k:Nat}{A:Around}(r:dY (k+1) A)(C:Addr)(us:List Value)(kw:List (Str×Value)):dY k (A.under (.builtin "type.__call__" ⟨.ref C::us,kw⟩)):=
 ⟨r.hd,by have:=r.dp;rw[Dj];omega,by have:=r.un;rw[Dk];omega⟩
theorem dY.depth{k:Nat}{A:Around}(r:dY k A):A.depth<recursionLimit:=by have:=r.dp;omega
theorem dY.units{k:Nat}{A:Around}(r:dY k A):A.units+64<cLine:=by have:=r.un;omega
def zQ:TA:=fun _ H Q=>Q [] H
def uf(ta:TE)(tr:TA):TA:=fun σ H Q=>ta σ H fun x H1=>tr σ H1 fun xs H2=>Q (x::xs) H2
section
variable{X:Cx}{e:Expr}{es:List Expr}{te:TE}{t:TA}{pos:Pos}
theorem ax:PA X [] zQ:=fun _ _ _ _ H Q I h=>Calls.spliced_nil ⟨[],H,I,.nil,h⟩
theorem ah(ha:PE X e te)(hr:PA X es t)(hs:starEach (e::es) X.env=(false,eval e X.env)::starEach es X.env:=by rfl):PA X (e::es) (uf te t):=by
 intro pos pins s σ H Q I h
 rw[hs]
 show wpAny _ _ (spliced ((false,eval e X.env)::backTo pos (starEach es X.env))) _ _ s
 refine Calls.spliced_cons (eQ (ha pins s σ H _ I h) fun u s1⟨x,H1,I1,r1,q1⟩=>?_)
 exact eQ (hr pos pins s1 σ H1 _ I1 q1) fun us s2⟨xs,H2,I2,r2,q2⟩=>⟨x::xs,H2,I2,.cons r1 r2,q2⟩
def XT(t:TA):TE:=fun σ H Q=>t σ H fun xs H1=>xs.length≤sizeLine∧∀p,H1 p=none→Q (.ref p) (upd H1 p (.lst xs))
theorem gd(h:PA X es t):PE X (.List es pos) (XT t):=by
 intro pins s σ H Q I hq
 refine wpAny_List_spliced (eQ (h pos pins s σ H _ I hq) fun us s1⟨xs,H1,I1,r,z,q⟩=>⟨by rw[←r.length];exact z,?_⟩)
 have hf:H1 s1.heap.objs.size=none:=I1.eZ.fresh (aq _)
 refine⟨.ref s1.heap.objs.size,upd H1 s1.heap.objs.size (.lst xs),I1.laid (t':=s1.toks) (fun b u e=>aw _ e) (aq _) ?_,rfl,q _ hf⟩
 exact⟨z,us,0,r,aZ _ rfl⟩
end
abbrev Sp:=List V→Hp→VK→XK→Prop
abbrev Hy:=List Env→Hp→Shared→XK→Value→Shared→Prop
structure Dl(P:Program)(w:World)(K:W.Frag)(mg:Str→Option Value)(base:Heap)(A:Around)(outer:List Env)(s:Shared)(H:Hp):Prop where
 frames:A.frames=some outer
 mod:Mod K mg base
 bs: ∀b o,base.get? b=some o→s.heap.get? b=some o∧H b=none
 Lr:base.objs.size≤s.heap.objs.size
 uq:s.heap.FunFrames base outer
 P9: ∀b∈IS outer,H b=none
 eZ:rJ P w H s.heap
 bare:AllBare s.gens
def CE(outer:List Env)(P:Program)(w:World)(H:Hp)(s:Shared)(Q:VK)(u:Value)(s':Shared):Prop:=
 ∃v H',s'.os=s.os∧AllBare s'.gens∧Un (IS outer) [] H H' s.heap s'.heap∧rJ P w H' s'.heap∧RelV v u∧Q v H'
def CR(CX:Hy)(outer:List Env)(P:Program)(w:World)(H:Hp)(s:Shared)(Q:VK)(E:XK)(r:Result)(s':Shared):Prop:=
 match r with
 |.ok (.ret u)=>CE outer P w H s Q u s'
 |.ok _=>False
 |.error e=>CX outer H s E e s'
structure cF(P:Program)(w:World)(K:W.Frag)(mg:Str→Option Value)(base:Heap)(CX:Hy)(k:Nat)(f:Addr)(fd:FuncData)(ps:List Str)(sp:Sp):Prop where
 len: ∀vs H Q E,sp vs H Q E→vs.length=ps.length
 run: ∀(A:Around)(outer:List Env)(s:Shared)(H:Hp)(args:Args)(us:List Value)(vs:List V)(Q:VK)(E:XK),dY k A→Dl P w K mg base A outer s H→BindsTo s fd args (ps.zip us)→Vals vs us→sp vs H Q E→
  codeAny (model P w) A (.call (.ref f) args) (CR CX outer P w H s Q E) s
theorem Dl.make{P:Program}{w:World}{K:W.Frag}{mg:Str→Option Value}{base:Heap}{A:Around}{outer:List Env}{s:Shared}{H:Hp}(e:Dl P w K mg base A outer s H)(C:Addr)(us:List Value)(kw:List (Str×Value)):
  Dl P w K mg base (A.under (.builtin "type.__call__" ⟨.ref C::us,kw⟩)) outer s H:=⟨by first|exact e.frames|(simpa[Around.under,Code.envs,Code.isFrame,pushEnvs]using e.frames),e.mod,e.bs,e.Lr,e.uq,e.P9,e.eZ,e.bare⟩
section
variable{X:Cx}{pins:List (Addr×Obj)}{σ:St}{H:Hp}{s s':Shared}
theorem Inv.Ua(I:Inv X pins σ H s):Dl X.prog X.w X.K X.mg X.base X.A X.stack s H:=
 ⟨I.ok.frames,I.ok.mod,I.bs,bW I.ok.Lr I.sz,I.stack,I.Eu,I.eZ,I.bare⟩
theorem Inv.after{Q:VK}{u:Value}(I:Inv X pins σ H s)(h:CE X.stack X.prog X.w H s Q u s'):EP X pins σ Q u s':=by
 obtain⟨v,H',os,bare,un,eZ,r,q⟩:=h
 obtain⟨hh,g,d,t,os'⟩:=s'
 obtain rfl:os'=s.os:=os
 exact⟨v,H',I.call (h':=hh) (g':=g) (d':=d) (t':=t) (ch:=[]) un eZ bare (fun b z=>absurd z (by simp)),r,q⟩
end
def rO(sp:Sp)(uw:List V)(E:XK)(t:TA):TE:=fun σ H Q=>t σ H fun vs H1=>sp (vs++uw) H1 Q E
def yo(C:Addr)(m:Str)(sp:Sp)(uw:List V)(E:XK)(ta:TE)(t:TA):TE:=fun σ H Q=>ta σ H fun x H1=>∃a dx fs,x=.ref a∧H1 a=some (.ins C dx fs)∧fs.lookup m=none∧
 t σ H1 fun vs H2=>sp (x::(vs++uw)) H2 Q E
def ED(C:Addr)(sp:Sp)(uw:List V)(E:XK)(t:TA):TE:=fun σ H Q=>t σ H fun vs H1=>∀x dx,H1 x=none→H1 dx=none→dx≠x→
 sp (.ref x::(vs++uw)) (upd (upd H1 dx (.own x)) x (.ins C dx [])) (fun v H2=>v=.fC∧Q (.ref x) H2) E
def Binds(K:W.Frag)(fd:FuncData)(ps:List Str)(ds:List Value):Prop:=
 ∀(s:Shared)(us:List Value),K.In s.heap→(us++ds).length=ps.length→BindsTo s fd ⟨us,[]⟩ (ps.zip (us++ds))
theorem Binds.all{K:W.Frag}{fd:FuncData}{ps:List Str}(h: ∀us:List Value,us.length=ps.length→bindArgs fd ⟨us,[]⟩=pure (ps.zip us)):Binds K fd ps []:=fun s us _ hl=>by
 rw[dS]at hl⊢
 exact .of_eq (h us hl)
def Passes(CX:Hy)(X:Cx)(E:XK):Prop:=∀(pins:List (Addr×Obj))(σ:St)(H:Hp)(s:Shared)(e:Value)(s':Shared),Inv X pins σ H s→CX X.stack H s E e s'→X.xe e s'
section
variable{X:Cx}{CX:Hy}{k:Nat}{f C:Addr}{fd:FuncData}{ps:List Str}{sp:Sp}{uw:List V}{ds:List Value}{E:XK}{x m:Str}{p pos apos:Pos}{e o:Expr}{es:List Expr}{ta:TE}{t:TA}
theorem zR{pins:List (Addr×Obj)}{σ:St}{H:Hp}{s:Shared}{Q:VK}{us:List Value}{vs:List V}(F:cF X.prog X.w X.K X.mg X.base CX k f fd ps sp)(hr:dY k X.A)(hb:Binds X.K fd ps ds)(hd:Vals uw ds)(hx:Passes CX X E)
  (I:Inv X pins σ H s)(r:Vals vs us)(h:sp (vs++uw) H Q E):wpAny (model X.prog X.w) X.A (call (.ref f) us) (EP X pins σ Q) X.xe s:=by
 have r2:Vals (vs++uw) (us++ds):=r.append hd
 have hl:(us++ds).length=ps.length:=by rw[←r2.length];exact F.len _ _ _ _ h
 refine wpAny_call (sj (F.run X.A X.stack s H ⟨us,[]⟩ (us++ds) (vs++uw) Q E hr I.Ua (hb s us I.Ck hl) r2 h) fun r s' hq=>?_)
 cases r with
 |error e=>exact hx pins σ H s e s' I hq
 |ok fl=>
  cases fl with
  |ret u=>exact I.after hq
  |next=>exact False.elim hq
  |brk=>exact False.elim hq
  |cont=>exact False.elim hq
theorem Ms(F:cF X.prog X.w X.K X.mg X.base CX k f fd ps sp)(hr:dY k X.A)(hg:Gl X x)(hm:X.mg x=some (.ref f))(hk:W.keepIn X.K (.ref f)=true)(hb:Binds X.K fd ps ds)(hd:Vals uw ds)(hx:Passes CX X E)
  (ha:PA X (e::es) t)(zS:(x==("__debug__":Str))=false:=by decide)(he:starEach (e::es) X.env=(false,eval e X.env)::starEach es X.env:=by rfl)(n9:(backTo pos (starEach es X.env)).any (·.1)=false:=by rfl):
  PE X (.Call (.Name x p) (e::es) [] pos) (rO sp uw E t):=by
 intro pins s σ H Q I h
 refine i6 (rK I hg hm ?_ zS)
 refine W.callWith_K (h₀:=X.base) I.ok.mod.Tr hk (eQ (ha pos pins s σ H _ I h) fun us s1⟨vs,H1,I1,r,q⟩=>⟨I1.Ck,?_⟩) he n9
 exact zR F hr hb hd hx I1 r q
theorem Ji(F:cF X.prog X.w X.K X.mg X.base CX k f fd ps sp)(hr:dY k X.A)(hg:Gl X x)(hm:X.mg x=some (.ref f))(hk:W.keepIn X.K (.ref f)=true)(hb:Binds X.K fd ps ds)(hd:Vals uw ds)(hx:Passes CX X E)
  (zS:(x==("__debug__":Str))=false:=by decide):PE X (.Call (.Name x p) [] [] pos) (rO sp uw E zQ):=by
 intro pins s σ H Q I h
 refine i6 (rK I hg hm ?_ zS)
 exact W.callWith_K0 I.Ck hk (zR (us:=[]) F hr hb hd hx I .nil h)
theorem Mt{pl:Sem Bool}(he:PE X o ta)(c:Bw X.K C)(hm:Meth X.K C m f)(F:cF X.prog X.w X.K X.mg X.base CX k f fd ps sp)(hr:dY k X.A)(hb:Binds X.K fd ps ds)(hd:Vals uw ds)(hx:Passes CX X E)(ha:PA X (e::es) t)
  (Lu:starEach (e::es) X.env=(false,eval e X.env)::starEach es X.env:=by rfl)(n9:(backTo pos (starEach es X.env)).any (·.1)=false:=by rfl)
  (ht:eval (.Call (.Attribute o m apos) (e::es) [] pos) X.env=(do
   let ov←eval o X.env
   standAt apos.atName
   let (f,first) ←holding [ov] (getMethod ov m pl)
   callWith pos f first (backTo pos (starEach (e::es) X.env)) (backToKw pos (keywordEach [] X.env))):=by rfl):
  PE X (.Call (.Attribute o m apos) (e::es) [] pos) (yo C m sp uw E ta t):=by
 intro pins s σ H Q I h
 refine W.methodCall_KW (pl:=pl) (eQ (he pins s σ H _ I h) fun u s1⟨x,H1,I1,rx,a,dx,fs,ex,ea,l,q⟩=>?_) ht
 subst ex
 obtain rfl:u=Value.ref a:=rx
 refine qt I1 ea c hm l ?_
 refine W.callWith_K (first:=[.ref a]) (h₀:=X.base) I.ok.mod.Tr hm.kp (eQ (ha pos pins s1 σ H1 _ I1 q) fun us s2⟨vs,H2,I2,r,q2⟩=>⟨I2.Ck,?_⟩) Lu n9
 exact zR (us:=.ref a::us) (vs:=.ref a::vs) F hr hb hd hx I2 (.cons rfl r) q2
theorem Jj{pl:Sem Bool}(he:PE X o ta)(c:Bw X.K C)(hm:Meth X.K C m f)(F:cF X.prog X.w X.K X.mg X.base CX k f fd ps sp)(hr:dY k X.A)(hb:Binds X.K fd ps ds)(hd:Vals uw ds)(hx:Passes CX X E)
  (ht:eval (.Call (.Attribute o m apos) [] [] pos) X.env=(do
   let ov←eval o X.env
   standAt apos.atName
   let (f,first) ←holding [ov] (getMethod ov m pl)
   callWith pos f first (backTo pos (starEach [] X.env)) (backToKw pos (keywordEach [] X.env))):=by rfl):
  PE X (.Call (.Attribute o m apos) [] [] pos) (yo C m sp uw E ta zQ):=by
 intro pins s σ H Q I h
 refine W.methodCall_KW (pl:=pl) (eQ (he pins s σ H _ I h) fun u s1⟨x,H1,I1,rx,a,dx,fs,ex,ea,l,q⟩=>?_) ht
 subst ex
 obtain rfl:u=Value.ref a:=rx
 refine qt I1 ea c hm l ?_
 exact W.callWith_K0 (first:=[.ref a]) I1.Ck hm.kp (zR (us:=[.ref a]) (vs:=[.ref a]) F hr hb hd hx I1 (.cons rfl .nil) q)
structure Mk(K:W.Frag)(C f:Addr):Prop where
 makes:W.makesIn K C=true
 init:W.findIn K (.ref C) "__init__"=some (some (.ref f))
 fn:W.isFn K (.ref f)=true
 kp:W.keepIn K (.ref C)=true
theorem Bx{pins:List (Addr×Obj)}{σ:St}{H:Hp}{s:Shared}{Q:VK}{us:List Value}{vs:List V}(M:Mk X.K C f)(F:cF X.prog X.w X.K X.mg X.base CX k f fd ps sp)(hr:dY (k+1) X.A)(hb:Binds X.K fd ps ds)(hd:Vals uw ds)
  (hx:Passes CX X E)(I:Inv X pins σ H s)(r:Vals vs us)
  (h: ∀x dx,H x=none→H dx=none→dx≠x→sp (.ref x::(vs++uw)) (upd (upd H dx (.own x)) x (.ins C dx [])) (fun v H2=>v=.fC∧Q (.ref x) H2) E):
  wpAny (model X.prog X.w) X.A (call (.ref C) us) (EP X pins σ Q) X.xe s:=by
 have hq:=h (s.heap.objs.size+1) s.heap.objs.size (I.eZ.fresh (Nat.le_succ _)) (I.eZ.fresh (aq _)) (br (mH _))
 have I2:=Inv.made (C:=C) I
 have r2:Vals (V.ref (s.heap.objs.size+1)::(vs++uw)) (Value.ref (s.heap.objs.size+1)::(us++ds)):=.cons rfl (r.append hd)
 have hl:(Value.ref (s.heap.objs.size+1)::us++ds).length=ps.length:=by
  have e:=r2.length
  rw[F.len _ _ _ _ hq]at e
  exact e.symm
 refine wpAny_call (Jh (f:=f) I.Ck M.makes M.init (cV.mp M.fn) (sj (F.run _ X.stack _ _ ⟨Value.ref (s.heap.objs.size+1)::us,[]⟩ (Value.ref (s.heap.objs.size+1)::(us++ds)) _ _ E (hr.make C us [])
  (I2.Ua.make C us []) (hb _ (Value.ref (s.heap.objs.size+1)::us) I2.Ck hl) r2 hq) fun r s' Jk=>?_))
 cases r with
 |error e=>exact hx pins σ _ _ e s' I2 Jk
 |ok fl=>
  cases fl with
  |ret u=>
   obtain⟨v,H',I3,rv,ev,q3⟩:=I2.after Jk
   subst ev
   exact⟨rv,⟨V.ref (s.heap.objs.size+1),H',I3,rfl,q3⟩⟩
  |next=>exact False.elim Jk
  |brk=>exact False.elim Jk
  |cont=>exact False.elim Jk
theorem Mu(M:Mk X.K C f)(F:cF X.prog X.w X.K X.mg X.base CX k f fd ps sp)(hr:dY (k+1) X.A)(hg:Gl X x)(hm:X.mg x=some (.ref C))(hb:Binds X.K fd ps ds)(hd:Vals uw ds)(hx:Passes CX X E)
  (ha:PA X (e::es) t)(zS:(x==("__debug__":Str))=false:=by decide)(he:starEach (e::es) X.env=(false,eval e X.env)::starEach es X.env:=by rfl)(n9:(backTo pos (starEach es X.env)).any (·.1)=false:=by rfl):
  PE X (.Call (.Name x p) (e::es) [] pos) (ED C sp uw E t):=by
 intro pins s σ H Q I h
 refine i6 (rK I hg hm ?_ zS)
 refine W.callWith_K (h₀:=X.base) I.ok.mod.Tr M.kp (eQ (ha pos pins s σ H _ I h) fun us s1⟨vs,H1,I1,r,q⟩=>⟨I1.Ck,?_⟩) he n9
 exact Bx M F hr hb hd hx I1 r q
theorem Jl(M:Mk X.K C f)(F:cF X.prog X.w X.K X.mg X.base CX k f fd ps sp)(hr:dY (k+1) X.A)(hg:Gl X x)(hm:X.mg x=some (.ref C))(hb:Binds X.K fd ps ds)(hd:Vals uw ds)(hx:Passes CX X E)
  (zS:(x==("__debug__":Str))=false:=by decide):PE X (.Call (.Name x p) [] [] pos) (ED C sp uw E zQ):=by
 intro pins s σ H Q I h
 refine i6 (rK I hg hm ?_ zS)
 exact W.callWith_K0 I.Ck M.kp (Bx (us:=[]) M F hr hb hd hx I .nil h)
end
structure bf(N P:List Str)(sc:Scope):Prop where
 kind:sc.kind=.function
 co:sc.isCoroutine=false
 gen:sc.isGenerator=false
 nd:N.Nodup
 pre:N.take P.length=P
 par: ∀x∈P,sc.names.lookup x=some .local∨sc.names.lookup x=some .cell
 Qs: ∀y∈sc.names,y.2≠ .free
theorem yp{kindOf:Str→Option NameKind}{x:Str}: ∀{binds:List (Str×Value)}{m:Str→Option Value},(∀v,(x,v)∉binds)→bindL kindOf binds m x=m x
 |[],_,_=>rfl
 |(n,v)::r,m,h=>by
  unfold bindL
  rw[yp fun w hw=>h w (bu _ hw)]
  split
  ·have:x≠n:=by rintro rfl;exact h v cv
   simp[this]
  ·rfl
theorem yq{kindOf:Str→Option NameKind}{x:Str}: ∀{binds:List (Str×Value)}{m:Str→Option Value},(∀v,(x,v)∉binds)→bindC kindOf binds m x=m x
 |[],_,_=>rfl
 |(n,v)::r,m,h=>by
  unfold bindC
  rw[yq fun w hw=>h w (bu _ hw)]
  split
  ·rfl
  ·have:x≠n:=by rintro rfl;exact h v cv
   simp[this]
theorem yr{kindOf:Str→Option NameKind}{x:Str}{v:Value}: ∀{P:List Str}{vs:List Value}{i:Nat}{m:Str→Option Value},P.Nodup→P[i]? =some x→vs[i]? =some v→kindOf x=some .local→
  bindL kindOf (P.zip vs) m x=some v
 |[],_,_,_,_,h,_,_=>by simp at h
 |_::_,[],_,_,_,_,h,_=>by simp at h
 |p::P,w::vs,0,m,nd,h1,h2,hk=>by
  simp at h1 h2;subst h1;subst h2
  show bindL kindOf ((p,w)::P.zip vs) m p=_
  unfold bindL
  rw[yp fun v hv=>(bV.mp nd).1 (iy hv).1,aO hk]
  simp
 |p::P,w::vs,i+1,m,nd,h1,h2,hk=>by
  show bindL kindOf ((p,w)::P.zip vs) m x=_
  unfold bindL
  exact yr (i:=i) (bV.mp nd).2 (by simpa using h1) (by simpa using h2) hk
theorem yt{kindOf:Str→Option NameKind}{x:Str}{v:Value}: ∀{P:List Str}{vs:List Value}{i:Nat}{m:Str→Option Value},P.Nodup→P[i]? =some x→vs[i]? =some v→kindOf x≠some .local→
  bindC kindOf (P.zip vs) m x=some v
 |[],_,_,_,_,h,_,_=>by simp at h
 |_::_,[],_,_,_,_,h,_=>by simp at h
 |p::P,w::vs,0,m,nd,h1,h2,hk=>by
  simp at h1 h2;subst h1;subst h2
  show bindC kindOf ((p,w)::P.zip vs) m p=_
  unfold bindC
  rw[yq fun v hv=>(bV.mp nd).1 (iy hv).1,aI hk]
  simp
 |p::P,w::vs,i+1,m,nd,h1,h2,hk=>by
  show bindC kindOf ((p,w)::P.zip vs) m x=_
  unfold bindC
  exact yt (i:=i) (bV.mp nd).2 (by simpa using h1) (by simpa using h2) hk
def start(N:List Str)(vs:List V):St:=vs.map some++List.replicate (N.length-vs.length) none
def Gq(CX:Hy)(P:Program)(w:World)(K:W.Frag)(mg:Str→Option Value)(base:Heap)(N:List Str)(qual:Str)(scope:Scope)(f:Addr)(cd:Value)(A:Around)(outer:List Env)(s:Shared)(H:Hp)(E:XK):Cx where
 prog:=P
 w:=w
 K:=K
 mg:=mg
 base:=base
 A:=A.deeper (envOfC qual scope s.heap.objs.size f cd)
 N:=N
 yk:=s
 Ts:=H
 env:=envOfC qual scope s.heap.objs.size f cd
 outer:=outer
 stack:=envOfC qual scope s.heap.objs.size f cd::outer
 ex:=[]
 calm:=true
 fn:=fun _=>true
 pn:=[]
 xe:=fun e s'=>wpAny (model P w) (A.deeper (envOfC qual scope s.heap.objs.size f cd)) (leaving (envOfC qual scope s.heap.objs.size f cd) e) (fun _ Ub=>CX outer H s E e Ub) (fun e' Ub=>CX outer H s E e' Ub) s'
theorem By{sc:Scope}{n:Nat}{x:Str}(h:sc.names.lookup x=some .cell): ∃c,(cellsFrom n sc.names []).lookup x=some c:=by
 have q:=W.cellsFrom_some sc.names n [] (.inl h)
 exact dM.mp q
theorem Gs{CX:Hy}{P:Program}{w:World}{K:W.Frag}{mg:Str→Option Value}{base:Heap}{N ps:List Str}{qual:Str}{scope:Scope}{f:Addr}{cd:Value}{A:Around}{outer:List Env}{s s1:Shared}{H:Hp}{E:XK}{us:List Value}{vs:List V}
  (S:bf N ps scope)(hd:A.handled=none)(e0:Dl P w K mg base A outer s H)(hl:vs.length=ps.length)(r:Vals vs us)
  (x:InCallC s s.heap.objs.size (bindL (envOfC qual scope s.heap.objs.size f cd).kindOf (ps.zip us) fun _=>none) (cellsFrom (s.heap.objs.size+1) scope.names []) (bindC (envOfC qual scope s.heap.objs.size f cd).kindOf (ps.zip us) fun _=>none) s1):
  Inv (Gq CX P w K mg base N qual scope f cd A outer s H E) [] (start N vs) H s1:=by
 have n9:ps.length≤N.length:=by have:=ba List.length S.pre;rw[cT]at this;omega
 obtain⟨h1,tk,rfl,hk⟩:=x.done
 have Sd: ∀b:Addr,b∉(Gq CX P w K mg base N qual scope f cd A outer s H E).ex:=fun b z=>absurd (show b∈([]:List Addr)from z) (by simp)
 refine⟨⟨e0.mod,S.kind,rfl,rfl,aq _,fun y z c h1 h2=>?_,fun y hy=>?_,fun y c _ h=>?_,fun _=>hd,Around.frames_deeper e0.frames,.inr ⟨rfl,rfl⟩,fun b z=>absurd z (Sd b),e0.bs,e0.Lr,fun b _ _=>Sd b,fun b z=>absurd z (Sd b),e0.uq,e0.P9⟩,
  rfl,e0.bare,Un.kept hk,⟨_,x.toInCall.ns,fun i y v h1 h2 h3=>?_⟩,fun y c h=>⟨_,x.cell y c h⟩,e0.eZ.fresh (aq _),fun y c h=>?_,fun p hp=>absurd (show p∈([]:List (Addr×Obj))from hp) (by simp),e0.eZ.kept hk,?_⟩
 ·exact name_of_addr x.apart (bT h1) (bT h2)
 ·have hy:scope.names.lookup y=some .cell∨scope.names.lookup y=some .free:=hy
  rcases hy with hy|hy
  ·exact By hy
  ·exact absurd rfl (S.Qs _ (bT hy))
 ·exact uE (x.above y c (bT h))
 ·have hi:i<vs.length:=by
   unfold start at h2
   by_cases hi:i<vs.length
   ·exact hi
   ·rw[jb (by simpa using hi)]at h2
    rw[d5]at h2
    split at h2<;>cases h2
  have ha:vs[i]? =some v:=by
   unfold start at h2
   rw[dE (by simpa using hi),ag]at h2
   cases e:vs[i]? with
   |none=>rw[e]at h2;cases h2
   |some a=>rw[e]at h2;cases h2;rfl
  obtain⟨u,hu,rv⟩:=r.get ha
  have hp:ps[i]? =some y:=by
   rw[←S.pre,sk (by omega)];exact h1
  have ndP:ps.Nodup:=by rw[←S.pre];exact S.nd.sublist (List.take_sublist _ _)
  refine⟨u,rv,?_⟩
  rcases S.par y (aL hp)with k|k
  ·exact .inl ⟨k,yr ndP hp hu k⟩
  ·obtain⟨c,e⟩:=By (n:=s.heap.objs.size+1) k
   refine .inr ⟨.inl k,c,e,?_⟩
   have q:=x.cell y c e
   rw[yt ndP hp hu (by show scope.names.lookup y≠_;rw[k];decide)]at q
   exact q
 ·exact e0.eZ.fresh (uE (x.above y c (bT h)))
 ·unfold start
  show _=N.length
  rw[bC,ae,xr]
  omega
theorem Uc{CX:Hy}{P:Program}{w:World}{K:W.Frag}{mg:Str→Option Value}{base:Heap}{k:Nat}{f:Addr}{name qual:Str}{params:Arguments}{body:List Stmt}{scope:Scope}{dV kV doc pm eM ct oc:Value}{an od:Option Addr}
  {Ov:Array (Option Value)}{N ps:List Str}{sp:Sp}(lk:K.lookup f=some ⟨oc,od,.func (W.fnOf name qual params body scope dV kV doc pm an eM ct),Ov⟩)(tV:W.codeIn K eM qual=true)(S:bf N ps scope)
  (len: ∀vs H Q E,sp vs H Q E→vs.length=ps.length)
  (Jm: ∀(A:Around)(outer:List Env)(s:Shared)(H:Hp)(vs:List V)(Q:VK)(E:XK),dY k (A.deeper (envOfC qual scope s.heap.objs.size f eM))→sp vs H Q E→
   ∃t,Ge (Gq CX P w K mg base N qual scope f eM A outer s H E) body t∧t {nx:=fun _ H'=>Q .fC H',rt:=Q} (start N vs) H):
  cF P w K mg base CX (k+1) f (W.fnOf name qual params body scope dV kV doc pm an eM ct) ps sp:=by
 refine⟨len,fun A outer s H args us vs Q E hr e0 hb r Lw=>?_⟩
 have hl:=len _ _ _ _ Lw
 have KX:K.In s.heap:=e0.mod.Tr.keeps fun b o e=>(e0.bs b o e).1
 have lim:s.heap.NoLimit:=e0.mod.nolimit.keeps fun b o e=>(e0.bs b o e).1
 have Ud: ∀y∈ps.zip us,scope.names.lookup y.1=some .local∨(scope.names.lookup y.1=some .cell∧((cellsFrom (s.heap.objs.size+1) scope.names []).lookup y.1).isSome=true):=fun⟨n,v⟩ hy=>by
  rcases S.par n (iy hy).1 with q|q
  ·exact .inl q
  ·exact .inr ⟨q,W.cellsFrom_some _ _ _ (.inl q)⟩
 refine codeAny_call_function hr.depth (KX _ _ lk) rfl S.co S.gen rfl (W.codeRec_of KX tV) (hb _ _ _ _ ?_)
 refine wpAny_newFunctionEnv_cells S.kind Ud fun env he s1 x=>?_
 subst he
 refine⟨lim.keeps x.toInCall.keep,codeAny_func ?_⟩
 obtain⟨t,ht,hq⟩:=Jm A outer s H vs Q E (hr.deeper _) Lw
 have I:Inv (Gq CX P w K mg base N qual scope f eM A outer s H E) [] (start N vs) H s1:=Gs S hr.hd e0 hl r x
 refine i5 (ht [] s1 (start N vs) H _ I hq) (fun fl s' hs=>?_) fun e s' hs=>hs
 have fin: ∀{σ':St}{H':Hp}{v:V}{u:Value},Inv (Gq CX P w K mg base N qual scope f eM A outer s H E) [] σ' H' s'→RelV v u→Q v H'→CE outer P w H s Q u s':=
  fun{σ' H' v u} J rv q=>⟨v,H',J.os,J.bare,J.base,J.eZ,rv,q⟩
 cases fl with
 |ret u=>
  obtain⟨v,σ',H',J,rv,q⟩:=hs
  exact fin J rv q
 |next=>
  obtain⟨σ',H',J,q⟩:=hs
  exact fin (v:=V.fC) (u:=Value.none) J rfl q
 |brk=>
  obtain⟨_,_,_,q⟩:=hs
  exact False.elim q
 |cont=>
  obtain⟨_,_,_,q⟩:=hs
  exact False.elim q
end L2
namespace L2
open PySem PySem.Spec PyProof.Rows
section
variable{X:Cx}{x:Str}{p pos:Pos}{e:Expr}{es:List Expr}{t:TA}{id T:String}{r:List V→Hp→VK→Prop}
def XU(r:List V→Hp→VK→Prop)(t:TA):TE:=fun σ H Q=>t σ H fun vs H1=>r vs H1 Q
theorem bZ(hc:jI X (.builtin id) r)(hg:Gl X x)(hm:X.mg x=none)(hv:bootBuiltins x=some (.builtin id))(ha:PA X (e::es) t)(hn:x≠"__name__":=by decide)(zS:(x==("__debug__":Str))=false:=by decide)
  (he:starEach (e::es) X.env=(false,eval e X.env)::starEach es X.env:=by rfl)(n9:(backTo pos (starEach es X.env)).any (·.1)=false:=by rfl):PE X (.Call (.Name x p) (e::es) [] pos) (XU r t):=by
 intro pins s σ H Q I h
 refine i6 (qp I hg hm hv ?_ hn zS)
 exact PyProof.Rows.callWith_builtin1 (eQ (ha pos pins s σ H _ I h) fun us s1⟨vs,H1,I1,r1,q1⟩=>hc pins s1 σ H1 vs us Q I1 r1 q1) he n9
theorem fR(hc:jI X (.type T) r)(hg:Gl X x)(hm:X.mg x=none)(hv:bootBuiltins x=some (.type T))(ha:PA X (e::es) t)(hn:x≠"__name__":=by decide)(zS:(x==("__debug__":Str))=false:=by decide)
  (he:starEach (e::es) X.env=(false,eval e X.env)::starEach es X.env:=by rfl)(n9:(backTo pos (starEach es X.env)).any (·.1)=false:=by rfl):PE X (.Call (.Name x p) (e::es) [] pos) (XU r t):=by
 intro pins s σ H Q I h
 refine i6 (qp I hg hm hv ?_ hn zS)
 exact d7 (eQ (ha pos pins s σ H _ I h) fun us s1⟨vs,H1,I1,r1,q1⟩=>hc pins s1 σ H1 vs us Q I1 r1 q1) he n9
end
end L2
namespace HT
open PySem PyProof.Rows
def lexLt:List Int→List Int→Bool
 |[],[]=>false
 |[],_::_=>true
 |_::_,[]=>false
 |x::xs,y::ys=>if x=y then lexLt xs ys else decide (x<y)
theorem kG(x y:Int)(xs ys:List Int):lexLt (x::xs) (y::ys)=if x=y then lexLt xs ys else decide (x<y):=rfl
theorem xT:lexLt [] []=false:=rfl
theorem wz(y:Int)(ys:List Int):lexLt [] (y::ys)=true:=rfl
theorem wA(x:Int)(xs:List Int):lexLt (x::xs) []=false:=rfl
theorem Jn(A:Around)(s:Shared)(a:Int)(t:Tok)(c:Int)(u:Tok): ∃e,SeqAt.EqAt A s (.int a t) (.int c u) e∧(e=true↔a=c):=
 ⟨(a==c),SeqAt.EqAt.int_int a t c u,by simp⟩
theorem Jo(A:Around)(s:Shared)(a:Int)(t:Tok)(c:Int)(u:Tok)(prog:Program)(w:World)(E:Value→Shared→Prop)(Q:Value→Shared→Prop)(h:Q (.bool (decide (a<c))) s):
  wpAny (model prog w) A (richCompare .Lt (.int a t) (.int c u)) Q E s:=
 (PyProof.Rows.lt_int h:wpAny (model prog w) A (compareOp .Lt (.int a t) (.int c u)) Q E s)
section
variable{prog:Program}{w:World}{A:Around}{E:Value→Shared→Prop}{s:Shared}
def AI(n d:Nat):Option Int→Nat
 |none=>d
 |some v=>if v<0 then(v+(n:Int)).toNat else min v.toNat n
theorem uM(n d k:Nat):AI n d (some (k:Int))=min k n:=by
 show(if(k:Int)<0 then((k:Int)+(n:Int)).toNat else min (k:Int).toNat n)=min k n
 rw[aI (by omega),aY]
end
end HT
namespace L2
open PySem PySem.Spec PyProof.Rows
abbrev TO:=St→Hp→(Option Int→Hp→Prop)→Prop
def PO(X:Cx)(e:Option Expr)(t:TO):Prop:=
 ∀(pins:List (Addr×Obj))(s:Shared)(σ:St)(H:Hp)(Q:Option Int→Hp→Prop),Inv X pins σ H s→t σ H Q→
  wpAny (model X.prog X.w) X.A (evalPart e X.env) (fun u s'=>∃o H',Inv X pins σ H' s'∧IsPart u o∧Q o H') X.xe s
def Mv:TO:=fun _ H Q=>Q none H
def Ue(t:TE):TO:=fun σ H Q=>t σ H fun x H1=>∃i,x=.int i∧Q (some i) H1
section
variable{X:Cx}{e:Expr}{te:TE}{lo hi:Option Expr}{tl th:TO}{pos p2:Pos}
theorem zT:PO X none Mv:=by
 intro pins s σ H Q I h
 rw[evalPart_none]
 exact aF ⟨none,H,I,.none,h⟩
theorem kj(h:PE X e te):PO X (some e) (Ue te):=by
 intro pins s σ H Q I hw
 rw[evalPart_some]
 refine eQ (h pins s σ H _ I hw) fun u s1⟨x,H1,I1,r1,q1⟩=>?_
 obtain⟨i,rfl,q⟩:=q1
 obtain⟨t,rfl⟩:=r1
 exact⟨some i,H1,I1,.int i t,q⟩
def XW(X:Cx)(r:V→Option Int→Option Int→Hp→VK→Prop):Prop:=
 ∀(pins:List (Addr×Obj))(s:Shared)(σ:St)(H:Hp)(x:V)(v vl vu:Value)(lo hi:Option Int)(sl:Addr)(Q:VK),Inv X pins σ H s→RelV x v→s.heap.IsSliceOf sl vl vu .none→IsPart vl lo→IsPart vu hi→r x lo hi H Q→
  ∃T id,typeLookup (.type T) "__getitem__"=pure (some (.builtin id))∧s.TypeIs v T∧wpAny (model X.prog X.w) X.A (getItem v (.ref sl)) (EP X pins σ Q) X.xe s
def tSl(r:V→Option Int→Option Int→Hp→VK→Prop)(te:TE)(tl th:TO):TE:=fun σ H Q=>te σ H fun x H1=>tl σ H1 fun l H2=>th σ H2 fun u H3=>r x l u H3 Q
theorem mi{r:V→Option Int→Option Int→Hp→VK→Prop}(hr:XW X r)(he:PE X e te)(hl:PO X lo tl)(hu:PO X hi th):PE X (.Subscript e (.Slice lo hi none p2) pos) (tSl r te tl th):=by
 intro pins s σ H Q I h
 refine Subscript_ (eQ (he pins s σ H _ I h) fun v s1⟨x,H1,I1,r1,q1⟩=>?_)
 refine wpAny_Slice (eQ (hl pins s1 σ H1 _ I1 q1) fun vl s2⟨l,H2,I2,pl,q2⟩=>eQ (hu pins s2 σ H2 _ I2 q2) fun vu s3⟨u,H3,I3,pu,q3⟩=>?_)
 rw[evalPart_none]
 refine aF ?_
 have I4:Inv X pins σ H3 {s3 with heap:=s3.heap.push {cls:=.type "slice",data:=.fields #[vl,vu,.none]}}:=I3.kept (t':=s3.toks) fun b ob q=>aw _ q
 obtain⟨T,id,hT,ht,hg⟩:=hr pins {s3 with heap:=s3.heap.push {cls:=.type "slice",data:=.fields #[vl,vu,.none]}} σ H3 x v vl vu l u s3.heap.objs.size Q I4 r1 (Heap.IsSliceOf.new ..) pl pu q3
 show wpAny (model X.prog X.w) X.A (subscriptTail e (.Slice lo hi none p2) v (.ref s3.heap.objs.size)) (EP X pins σ Q) X.xe {s3 with heap:=s3.heap.push {cls:=.type "slice",data:=.fields #[vl,vu,.none]}}
 exact tail_any (ops:=[.ref s3.heap.objs.size,v]) ht hT hg (by with_unfolding_all rfl)
def sY(xs:List V)(lo hi:Option Int):List V:=(xs.drop (HT.AI xs.length 0 lo)).take (HT.AI xs.length xs.length hi-HT.AI xs.length 0 lo)
theorem ug(xs:List V)(lo hi:Option Int):(sY xs lo hi).length≤xs.length:=by
 unfold sY
 rw[cT,eF]
 omega
end
end L2
namespace L2
open PySem PySem.Spec PyProof.Rows
def Mw(n:Nat)(i:Int):Option Nat:=if 0≤i then(if i<n then some i.toNat else none)else if-(n:Int)≤i then some (i+n).toNat else none
def Se{α:Type}(xs:List α)(i:Int):Option α:=(Mw xs.length i).bind fun j=>xs[j]?
theorem EE{n:Nat}{i:Int}{j:Nat}(h:Mw n i=some j):seqIndex? i n=some j∧j<n∧ -(n:Int)≤i∧i<n:=by
 unfold Mw at h
 by_cases h0:0≤i
 ·rw[aO h0]at h
  by_cases h1:i<n
  ·rw[aO h1]at h
   have e:i.toNat=j:=a7 h
   exact⟨by rw[seqIndex_of h0 h1,e],by omega,by omega,h1⟩
  ·rw[aI h1]at h;cases h
 ·rw[aI h0]at h
  by_cases h1: -(n:Int)≤i
  ·rw[aO h1]at h
   have e:(i+n).toNat=j:=a7 h
   exact⟨by rw[seqIndex_neg (by omega) h1,e],by omega,h1,by omega⟩
  ·rw[aI h1]at h;cases h
theorem Mx{α:Type}{xs:List α}{i:Int}{v:α}(h:Se xs i=some v): ∃j,seqIndex? i xs.length=some j∧xs[j]? =some v∧j<xs.length∧ -(xs.length:Int)≤i∧i<xs.length:=by
 unfold Se at h
 cases e:Mw xs.length i with
 |none=>rw[e]at h;cases h
 |some j=>
  rw[e]at h
  obtain⟨h1,h2,h3,h4⟩:=EE e
  exact⟨j,h1,h,h2,h3,h4⟩
theorem My{α:Type}{xs:List α}{j:Nat}{v:α}(h:xs[j]? =some v):Se xs (j:Int)=some v:=by
 have hj:j<xs.length:=(aJ.mp h).1
 have e:Mw xs.length (j:Int)=some j:=by
  unfold Mw
  rw[aO (by omega),aO (by omega)];simp
 unfold Se;rw[e];exact h
def Mz(b:Expr):Prop:=∀o i,subscripted b false o i=operate [o,i] (getItem o i)
def EF(X:Cx)(r:R2):Prop:=
 ∀(value slice:Expr)(pins:List (Addr×Obj))(s:Shared)(σ:St)(H:Hp)(x y:V)(v u:Value)(Q:VK),Inv X pins σ H s→RelV x v→RelV y u→r x y H Q→
  subscripted slice false v u=operate [v,u] (getItem v u)→wpAny (model X.prog X.w) X.A (subscriptTail value slice v u) (EP X pins σ Q) X.xe s
def We(X:Cx)(id:String)(r:V→List V→Hp→VK→Prop):Prop:=
 ∀(pins:List (Addr×Obj))(s:Shared)(σ:St)(H:Hp)(x:V)(xs:List V)(v:Value)(us:List Value)(Q:VK),Inv X pins σ H s→RelV x v→Vals xs us→r x xs H Q→
  wpAny (model X.prog X.w) X.A (call (.builtin id) (v::us)) (EP X pins σ Q) X.xe s
section
variable{X:Cx}{a b:Expr}{ta tb:TE}{pos:Pos}
theorem cK{r:R2}(hr:EF X r)(ha:PE X a ta)(hb:PE X b tb)(hs:Mz b):PE X (.Subscript a b pos) (Ey r ta tb):=by
 intro pins s σ H Q I h
 exact Subscript_ (Ql ha hb I h fun v u s2 x y H2 I2 rx ry q=>hr a b pins s2 σ H2 x y v u Q I2 rx ry q (hs _ _))
def mj(K:W.Frag):R2:=fun x y H Q=>∃p xs i v,x=.ref p∧y=.int i∧cy K H p xs∧Se xs i=some v∧Q v H
theorem bH:EF X (mj X.K):=by
 intro value slice pins s σ H x y v u Q I rx ry h hs
 obtain⟨p,xs,i,z,rfl,rfl,hq,he,q⟩:=h
 cases rx
 obtain⟨t,rfl⟩:=ry
 obtain⟨cw,r,pl,hz⟩:=I.list hq
 obtain⟨j,h1,h2,h3,h4,h5⟩:=Mx he
 obtain⟨w,ew,XX⟩:=r.get h2
 have hl:=r.length
 have hn:=zO
 have fin:EP X pins σ Q w s:=⟨z,H,I,XX,q⟩
 by_cases h0:0≤i
 ·have hj:i.toNat=j:=by
   rw[seqIndex_of h0 h5]at h1
   exact a7 h1
  exact item_listR pl.isList h0 (by omega) (by rw[hj];simpa using ew) fin hs
 ·have hj:(i+(cw.toArray.size:Int)).toNat=j:=by
   rw[seqIndex_neg (by omega) h4]at h1
   rw[aV,←hl]
   exact a7 h1
  exact subscriptTail_builtinR (x:=w) pl.isList.typeIs slot_list_getitem.lookup
   (wpAny_getItem_list_neg (Q:=fun r s'=>r=w∧EP X pins σ Q r s') pl.isList (by omega) (by rw[aV]<;>omega) (by omega) (by rw[hj];simpa using ew) ⟨rfl,fin⟩) hs
theorem Dm(cw:List Value)(n j:Nat)(u:Value):Obj.mapSeq (·.setIfInBounds j u) {cls:=.type "list",data:=.seq cw.toArray n}={cls:=.type "list",data:=.seq (cw.set j u).toArray n}:=by
 simp[Obj.mapSeq]
theorem Inv.lst{pins:List (Addr×Obj)}{σ:St}{H:Hp}{s:Shared}{p:Addr}{xs:List V}(I:Inv X pins σ H s)(h:H p=some (.lst xs)):
  ∃(cw:List Value)(n:Nat),Vals xs cw∧s.heap.get? p=some {cls:=.type "list",data:=.seq cw.toArray n}∧xs.length≤sizeLine:=by
 obtain⟨z,cw,n,r,e⟩:=I.eZ p _ h
 exact⟨cw,n,r,e,z⟩
theorem Inv.Qt{pins:List (Addr×Obj)}{σ:St}{H:Hp}{s:Shared}{p:Addr}{xs ys:List V}{cw its':List Value}{n n':Nat}{f:Obj→Obj}(I:Inv X pins σ H s)(h:H p=some (.lst xs))
  (ho:s.heap.get? p=some {cls:=.type "list",data:=.seq cw.toArray n})(hf:f {cls:=.type "list",data:=.seq cw.toArray n}={cls:=.type "list",data:=.seq its'.toArray n'})(r:Vals ys its')(hz:ys.length≤sizeLine)(t:Nat):
  Inv X pins σ (upd H p (.lst ys)) {s with heap:=s.heap.update p f,toks:=t}:=by
 have e:(s.heap.update p f).get? p=some {cls:=.type "list",data:=.seq its'.toArray n'}:=by
  rw[dX f ho (by rw[hf]<;>rfl),hf]
 refine I.write (x:=p) (e:=p) (by rw[h];trivial) (.inl rfl) (fun b u hb q=>(nJ _ _ (iM hb)).trans q) ⟨_,e⟩ ?_
 exact⟨hz,its',n',r,e⟩
def Ug:V→V→V→Hp→(Hp→Prop)→Prop:=fun o i v H Q=>∃p xs k j,o=.ref p∧i=.int k∧H p=some (.lst xs)∧Mw xs.length k=some j∧Q (upd H p (.lst (xs.set j v)))
theorem set_list:Qi X Ug:=by
 intro pins s σ H o i v ov iv u Q I ro ri rv h
 obtain⟨p,xs,k,j,rfl,rfl,hp,hj,q⟩:=h
 cases ro
 obtain⟨t,rfl⟩:=ri
 obtain⟨cw,n,r,ho,hz⟩:=I.lst hp
 obtain⟨h1,h2,h3,h4⟩:=EE hj
 have hl:=r.length
 have hn:=zO
 have I':Inv X pins σ (upd H p (.lst (xs.set j v))) {s with heap:=s.heap.update p (Obj.mapSeq (·.setIfInBounds j u))}:=
  I.Qt hp ho (Dm cw n j u) (r.set rv j) (by rw[uZ];exact hz) s.toks
 by_cases h0:0≤k
 ·have hk:k.toNat=j:=by
   rw[seqIndex_of h0 h4]at h1
   exact a7 h1
  exact W.ki_setAt ho h0 (by omega) (by rw[aV,←hl];exact h4) (by rw[hk];exact⟨_,I',q⟩)
 ·have hk:(k+(cw.toArray.size:Int)).toNat=j:=by
   rw[seqIndex_neg (by omega) h3]at h1
   rw[aV,←hl]
   exact a7 h1
  exact W.ki_setBack ho (by omega) (by rw[aV,←hl];exact h3) (by omega) (by rw[hk];exact⟨_,I',q⟩)
theorem zU(lo hi:Option Int)(n:Nat):(sliceBounds lo hi none n).1=((HT.AI n 0 lo:Nat):Int)∧(sliceBounds lo hi none n).2.1=((HT.AI n n hi:Nat):Int)∧(sliceBounds lo hi none n).2.2=1:=by
 refine⟨?_,?_,rfl⟩
 ·cases lo with
  |none=>simp[sliceBounds,HT.AI]
  |some i=>
   simp only[sliceBounds,HT.AI,Option.getD_none,show(1:Int)>0 by decide,fD]
   by_cases h:i<0
   ·simp only[h,fD]<;>omega
   ·simp only[h,fb]<;>omega
 ·cases hi with
  |none=>simp[sliceBounds,HT.AI]
  |some i=>
   simp only[sliceBounds,HT.AI,Option.getD_none,show(1:Int)>0 by decide,fD]
   by_cases h:i<0
   ·simp only[h,fD]<;>omega
   ·simp only[h,fb]<;>omega
theorem xU(cw:List Value)(lo hi:Option Int):slicePick cw.toArray lo hi none=((cw.drop (HT.AI cw.length 0 lo)).take (HT.AI cw.length cw.length hi-HT.AI cw.length 0 lo)).toArray:=by
 obtain⟨h1,h2,h3⟩:=zU lo hi cw.toArray.size
 unfold slicePick
 rw[h1,h2,h3]
 simp only[sliceRange_one,pick_run,aV]<;>rfl
def Uh(K:W.Frag):V→Option Int→Option Int→Hp→VK→Prop:=fun x lo hi H Q=>∃a xs,x=.ref a∧cy K H a xs∧∀p,H p=none→Q (.ref p) (upd H p (.lst (sY xs lo hi)))
theorem pL:XW X (Uh X.K):=by
 intro pins s σ H x v vl vu lo hi sl Q I rx hs pl pu h
 obtain⟨a,xs,rfl,hx,q⟩:=h
 cases rx
 obtain⟨cw,r,ht,hz⟩:=I.list hx
 have hlen:=r.length
 refine⟨"list",_,slot_list_getitem.lookup,ht.isList.typeIs,?_⟩
 refine wpAny_getItem_list_slice ht.isList hs pl pu .none (by simp) ?_ (by rw[aV]<;>omega)
 rw[xU,←hlen]
 refine⟨.ref s.heap.objs.size,_,I.laid (t':=s.toks) (o:=.lst (sY xs lo hi)) (fun b ob q=>aw _ q) (aq _) ?_,rfl,q _ (I.eZ.fresh (aq _))⟩
 exact⟨bW (ug xs lo hi) hz,_,0,(r.drop (HT.AI xs.length 0 lo)).take (HT.AI xs.length xs.length hi-HT.AI xs.length 0 lo),aZ _ rfl⟩
def ml:V→Bool
 |.fC=>true
 |.bl _=>true
 |.int _=>true
 |.str _=>true
 |_=>false
def Lx:V→V→Bool
 |.fC,.fC=>true
 |.bl a,.bl b=>a==b
 |.bl a,.int b=>(if a then 1 else 0)==b
 |.int a,.bl b=>a==(if b then 1 else 0)
 |.int a,.int b=>a==b
 |.str a,.str b=>a==b
 |_,_=>false
theorem Qu{A:Around}{s:Shared}{y x:V}{u v:Value}(ry:RelV y u)(rx:RelV x v)(fy:ml y=true)(fx:ml x=true):SeqAt.EqAt A s u v (Lx y x):=by
 cases y with
 |fC=>
  cases ry
  cases x with
  |fC=>cases rx;exact SeqAt.EqAt.same _
  |bl b=>cases rx;exact SeqAt.EqAt.none_bool b
  |int b=>obtain⟨t,rfl⟩:=rx;exact SeqAt.EqAt.none_int b t
  |str b=>obtain⟨t,rfl⟩:=rx;exact SeqAt.EqAt.none_str b t
  |_=>exact absurd (show false=true from fx) bb
 |bl a=>
  cases ry
  cases x with
  |fC=>cases rx;exact SeqAt.EqAt.bool_none a
  |bl b=>cases rx;exact SeqAt.EqAt.bool_bool a b
  |int b=>obtain⟨t,rfl⟩:=rx;exact SeqAt.EqAt.bool_int a b t
  |str b=>obtain⟨t,rfl⟩:=rx;exact SeqAt.EqAt.bool_str a b t
  |_=>exact absurd (show false=true from fx) bb
 |int a=>
  obtain⟨t',rfl⟩:=ry
  cases x with
  |fC=>cases rx;exact SeqAt.EqAt.int_none a t'
  |bl b=>cases rx;exact SeqAt.EqAt.int_bool a t' b
  |int b=>obtain⟨t,rfl⟩:=rx;exact SeqAt.EqAt.int_int a t' b t
  |str b=>obtain⟨t,rfl⟩:=rx;exact SeqAt.EqAt.int_str a t' b t
  |_=>exact absurd (show false=true from fx) bb
 |str a=>
  obtain⟨t',rfl⟩:=ry
  cases x with
  |fC=>cases rx;exact SeqAt.EqAt.str_none a t'
  |bl b=>cases rx;exact SeqAt.EqAt.str_bool a t' b
  |int b=>obtain⟨t,rfl⟩:=rx;exact SeqAt.EqAt.str_int a t' b t
  |str b=>obtain⟨t,rfl⟩:=rx;exact SeqAt.EqAt.str_str a t' b t
  |_=>exact absurd (show false=true from fx) bb
 |_=>exact absurd (show false=true from fy) bb
def Ly(x:V)(u:Value):Bool:=match u with
 |.none=>Lx .fC x
 |.bool b=>Lx (.bl b) x
 |.int i _=>Lx (.int i) x
 |.str z _=>Lx (.str z) x
 |_=>false
theorem zV{x y:V}{u:Value}(r:RelV y u)(f:ml y=true):Ly x u=Lx y x:=by
 cases y with
 |fC=>cases r;rfl
 |bl b=>cases r;rfl
 |int i=>obtain⟨t,rfl⟩:=r;rfl
 |str z=>obtain⟨t,rfl⟩:=r;rfl
 |_=>exact absurd (show false=true from f) bb
theorem zW{x:V}: ∀{xs:List V}{us:List Value},Vals xs us→xs.all ml=true→us.any (Ly x)=xs.any fun y=>Lx y x
 |_,_,.nil,_=>rfl
 |y::xs,u::us,.cons r t,f=>by
  rw[List.all_cons,aN]at f
  rw[sm,sm,zV r f.1,zW t f.2]
theorem rP{A:Around}{s:Shared}{x:V}{v:Value}(rx:RelV x v)(fx:ml x=true): ∀{xs:List V}{us:List Value},Vals xs us→xs.all ml=true→∀u∈us,SeqAt.EqAt A s u v (Ly x u)
 |_,_,.nil,_=>fun u hu=>by cases hu
 |y::xs,u::us,.cons r t,f=>fun u' hu=>by
  rw[List.all_cons,aN]at f
  rcases aH.mp hu with rfl|hu
  ·rw[zV r f.1];exact Qu r rx f.1 fx
  ·exact rP rx fx t f.2 u' hu
def Sf(x:V)(xs:List V):Bool:=xs.any fun y=>Lx y x
def XY(K:W.Frag)(neg:Bool):R2:=fun x y H Q=>∃p xs,y=.ref p∧(cy K H p xs∨Ls K H p xs)∧ml x=true∧xs.all ml=true∧Q (.bl (if neg then !Sf x xs else Sf x xs)) H
theorem yu:rM X (compareOp .In) (XY X.K false):=by
 intro pins s σ H x y v u Q I rx ry h
 obtain⟨p,xs,rfl,hq,fx,fs,q⟩:=h
 cases ry
 rcases hq with hq|hq
 ·obtain⟨cw,r,pl,hz⟩:=I.list hq
  refine SeqAt.in_listAt (Ly x) pl.isList (fun w hw=>rP rx fx r fs w (by simpa using hw)) ⟨.bl _,H,I,rfl,?_⟩
  rw[show cw.toArray.any (Ly x)=cw.any (Ly x) by simp,zW r fs]
  exact q
 ·obtain⟨cw,r,pl,hz⟩:=I.tuple hq
  refine SeqAt.in_tupleAt (Ly x) pl (fun w hw=>rP rx fx r fs w (by simpa using hw)) ⟨.bl _,H,I,rfl,?_⟩
  rw[show cw.toArray.any (Ly x)=cw.any (Ly x) by simp,zW r fs]
  exact q
theorem bN:jI X (.builtin "len") (fun xs H Q=>∃p ys,xs=[.ref p]∧(cy X.K H p ys∨Ls X.K H p ys)∧Q (.int ys.length) H):=by
 intro pins s σ H xs us Q I r h
 obtain⟨p,ys,rfl,hq,q⟩:=h
 obtain⟨u,rfl,rx⟩:=vals1 r
 cases rx
 have hn:=zO
 rcases hq with hq|hq
 ·obtain⟨cw,r',pl,hz⟩:=I.list hq
  have hlen:=r'.length
  exact Calls.call_len_list pl.isList (by simp only[aV]<;>omega) ⟨.int ys.length,H,I.tok _,⟨s.toks+1,by rw[aV,hlen]⟩,q⟩
 ·obtain⟨cw,r',pl,hz⟩:=I.tuple hq
  have hlen:=r'.length
  exact len_tuple pl (by simp only[aV]<;>omega) ⟨.int ys.length,H,I.tok _,⟨s.toks+1,by rw[aV,hlen]⟩,q⟩
theorem zX:jI X (.type "list") (fun xs H Q=>∃p ys,xs=[.ref p]∧(cy X.K H p ys∨Ls X.K H p ys)∧∀l,H l=none→Q (.ref l) (upd H l (.lst ys))):=by
 intro pins s σ H xs us Q I r h
 obtain⟨p,ys,rfl,hq,q⟩:=h
 obtain⟨u,rfl,rx⟩:=vals1 r
 cases rx
 have fin: ∀(cw:List Value),Vals ys cw→ys.length≤sizeLine→∀(h':Heap)(c':Nat),(∀b o',s.heap.get? b=some o'→h'.get? b=some o')→
   h'.get? s.heap.objs.size=some {cls:=.type "list",dict:=none,data:=.seq cw.toArray c',slots:=#[]}→EP X pins σ Q (.ref s.heap.objs.size) {s with heap:=h'}:=fun cw r' hz h' c' kp e=>
  ⟨.ref s.heap.objs.size,_,I.laid (t':=s.toks) kp (aq _) (show iD X.prog X.w _ h' _ (.lst ys)from⟨hz,cw,c',r',e⟩),rfl,q _ (I.eZ.fresh (aq _))⟩
 rcases hq with hq|hq
 ·obtain⟨cw,r',pl,hz⟩:=I.list hq
  have hlen:=r'.length
  obtain⟨o,ho,hc,n,hd⟩:=pl.isList
  exact call_list_seq p (.inl rfl) ho hc hd (fun h' c' kp e=>fin cw r' hz h' c' kp e) (by simp only[aV]<;>omega)
 ·obtain⟨cw,r',pl,hz⟩:=I.tuple hq
  have hlen:=r'.length
  obtain⟨o,ho,hc,n,hd⟩:=pl
  exact call_list_seq p (.inr rfl) ho hc hd (fun h' c' kp e=>fin cw r' hz h' c' kp e) (by simp only[aV]<;>omega)
def XZ(K:W.Frag)(T:String)(x:V)(H:Hp):Prop:=match x with
 |.str _=>T="str"
 |.int _=>T="int"
 |.ref p=>(T="list"∧∃xs,cy K H p xs)∨(T="tuple"∧∃o,K.lookup p=some o∧o.cls=.type "tuple"∧o.dict=none)∨
   (T="dict"∧((∃zF,H p=some (.dK zF))∨∃zF,H p=some (.dT zF)))∨(T="set"∧∃S n,H p=some (.set S n))
 |_=>False
theorem Jp{pins:List (Addr×Obj)}{σ:St}{H:Hp}{s:Shared}{T:String}{x:V}{v:Value}(I:Inv X pins σ H s)(r:RelV x v)(ty:XZ X.K T x H):
  s.TypeIs v T∧∀a,v=.ref a→∃ob,s.heap.get? a=some ob∧ob.dict=none:=by
 cases x with
 |str z=>
  obtain⟨t,rfl⟩:=r
  cases (show T="str" from ty)
  exact⟨typeIs_str s z t,fun _ e=>nomatch e⟩
 |int i=>
  obtain⟨t,rfl⟩:=r
  cases (show T="int" from ty)
  exact⟨typeIs_int s i t,fun _ e=>nomatch e⟩
 |ref p=>
  cases r
  rcases ty with⟨rfl,xs,hq⟩|⟨rfl,o,hk,hc,hd⟩|⟨rfl,hk⟩|⟨rfl,S,n,hk⟩
  ·obtain⟨cw,_,pl,_⟩:=I.list hq
   refine⟨pl.isList.typeIs,fun a e=>?_⟩
   cases e
   obtain⟨o,n,e,c,hd,_⟩:=pl
   exact⟨o,e,hd⟩
  ·refine⟨⟨o,I.Ck p o hk,hc⟩,fun a e=>?_⟩
   cases e
   exact⟨o,I.Ck _ o hk,hd⟩
  ·have z: ∃o,s.heap.get? p=some o∧o.ExactDict:=by
    rcases hk with⟨zF,hk⟩|⟨zF,hk⟩
    ·obtain⟨_,_,_,_,o,_,_,e,ex,_⟩:=I.eZ p _ hk
     exact⟨o,e,ex⟩
    ·obtain⟨_,_,_,_,o,_,_,e,ex,_⟩:=I.eZ p _ hk
     exact⟨o,e,ex⟩
   obtain⟨o,e,ex⟩:=z
   refine⟨⟨o,e,ex.1⟩,fun a e2=>?_⟩
   cases e2
   exact⟨o,e,ex.2.1⟩
  ·obtain⟨o,_,_,_,e,ex,_⟩:=I.eZ p _ hk
   refine⟨⟨o,e,ex.1⟩,fun a e2=>?_⟩
   cases e2
   exact⟨o,e,ex.2.1⟩
 |_=>exact False.elim ty
def X0(K:W.Frag)(T:String)(r:V→List V→Hp→VK→Prop)(to:TE):TE:=fun σ H Q=>to σ H fun x H1=>XZ K T x H1∧r x [] H1 Q
def tBM(K:W.Frag)(T:String)(r:V→List V→Hp→VK→Prop)(to:TE)(t:TA):TE:=fun σ H Q=>to σ H fun x H1=>XZ K T x H1∧t σ H1 fun xs H2=>r x xs H2 Q
variable{o e:Expr}{es:List Expr}{to:TE}{t:TA}{name:Str}{apos wB:Pos}{T id:String}{r:V→List V→Hp→VK→Prop}
theorem Qv(pa:PlainAttrs T)(slot:Slot T name id)(X1:typeOf (.builtin id)=pure (.type "method_descriptor"))(hm:We X id r)(ho:PE X o to)
  (Jq:attributeBase o name X.env (eval o X.env)=eval o X.env:=by rfl)(Jr:(apos.endLine==wB.line)=true:=by rfl):PE X (.Call (.Attribute o name apos) [] [] wB) (X0 X.K T r to):=by
 intro pins s σ H Q I h
 refine wpAny_Call_method0_late Jq Jr (eQ (ho pins s σ H _ I h) fun v s1⟨x,H1,I1,r1,ty,q1⟩=>?_)
 obtain⟨h1,h2⟩:=Jp I1 r1 ty
 exact⟨T,id,pa,slot,X1,h1,h2,Calls.callWith_builtin rfl (PySem.evalArgs_none (hm pins s1 σ H1 x [] v [] Q I1 r1 .nil q1))⟩
theorem lA(pa:PlainAttrs T)(slot:Slot T name id)(X1:typeOf (.builtin id)=pure (.type "method_descriptor"))(hm:We X id r)(ho:PE X o to)(ha:PA X (e::es) t)
  (Jq:attributeBase o name X.env (eval o X.env)=eval o X.env:=by rfl)
  (X2:((backTo wB (starEach (e::es) X.env)).all (fun x=>!x.1)&&(backToKw wB (keywordEach [] X.env)).all (fun x=>x.1.isSome)
   &&decide ((e::es).length+([]:List Keyword).length+(if([]:List Keyword).isEmpty then 0 else 1)<30))=true:=by rfl)
  (Jr:(apos.endLine==wB.line)=true:=by rfl)(hs:starEach (e::es) X.env=(false,eval e X.env)::starEach es X.env:=by rfl)(Qw:(backTo wB (starEach es X.env)).any (·.1)=false:=by rfl):
  PE X (.Call (.Attribute o name apos) (e::es) [] wB) (tBM X.K T r to t):=by
 intro pins s σ H Q I h
 refine wpAny_Call_method_late Jq X2 Jr rfl (eQ (ho pins s σ H _ I h) fun v s1⟨x,H1,I1,r1,ty,q1⟩=>?_)
 obtain⟨h1,h2⟩:=Jp I1 r1 ty
 refine⟨T,id,pa,slot,X1,h1,h2,?_⟩
 have hA:=ha wB pins s1 σ H1 _ I1 q1
 rw[hs]at hA⊢
 refine Calls.callWith_builtin (by show(false||(backTo wB (starEach es X.env)).any (·.1))=false;rw[Qw]<;>rfl) (Calls.evalArgs_plain ?_)
 exact eQ hA fun us s2⟨vs,H2,I2,r2,q2⟩=>hm pins s2 σ H2 x vs v us Q I2 r1 r2 q2
end
end L2
namespace L2
open PySem PySem.Spec PyProof.Rows
def X3(X:Cx)(id:String)(r:V→List V→Hp→VK→Prop):Prop:=
 ∀(pins:List (Addr×Obj))(s:Shared)(σ:St)(H:Hp)(x:V)(xs:List V)(v:Value)(us:List Value)(Q:VK),Inv X pins σ H s→RelV x v→Vals xs us→r x xs H Q→
  wpAny (model X.prog X.w) X.A (call (.builtin id) (v::us)) (EP X pins σ Q) X.xe s
theorem Vals.one: ∀{x:V}{us:List Value},Vals [x] us→∃u,us=[u]∧RelV x u
 |_,_,.cons r .nil=>⟨_,rfl,r⟩
theorem Vals.zero: ∀{us:List Value},Vals [] us→us=[]
 |_,.nil=>rfl
theorem Vals.reverse{xs:List V}{us:List Value}(h:Vals xs us):Vals xs.reverse us.reverse:=by
 induction h with
 |nil=>exact .nil
 |cons r t ih=>rw[List.reverse_cons,List.reverse_cons];exact Vals.append ih (.cons r .nil)
section
variable{X:Cx}{pins:List (Addr×Obj)}{σ:St}{H:Hp}{s:Shared}{l b:Addr}{xs ys zs:List V}
theorem Inv.Qx{cw its':List Value}{n:Nat}{f:Array Value→Array Value}{t':Nat}(I:Inv X pins σ H s)(hH:H l=some (.lst xs))
  (e:s.heap.get? l=some {cls:=.type "list",data:=.seq cw.toArray n})(hf:f cw.toArray=its'.toArray)(hv:Vals ys its')(hz:ys.length≤sizeLine):
  Inv X pins σ (upd H l (.lst ys)) {s with heap:=s.heap.update l (Obj.mapSeq f),toks:=t'}:=by
 have q:=PySem.IsL.update e f
 rw[hf]at q
 refine I.write (x:=l) (e:=l) (by rw[hH];exact trivial) (.inl rfl) (fun b' u hb hu=>(nJ s.heap (Obj.mapSeq f) (iM hb)).trans hu) ⟨_,q⟩ ?_
 exact⟨hz,its',_,hv,q⟩
theorem Inv.X4{cw:List Value}{t':Nat}(I:Inv X pins σ H s)(hv:Vals ys cw)(hz:ys.length≤sizeLine):
  Inv X pins σ (upd H s.heap.objs.size (.lst ys)) {s with heap:=s.heap.push {cls:=.type "list",data:=.seq cw.toArray},toks:=t'}:=
 I.laid (fun _ _ q=>aw _ q) (aq _) ⟨hz,cw,0,hv,aZ _ rfl⟩
theorem Inv.fresh(I:Inv X pins σ H s):H s.heap.objs.size=none:=I.eZ.fresh (aq _)
theorem Inv.Gu(I:Inv X pins σ H s)(hH:H l=some (.lst xs)):xs.length≤sizeLine∧∃(cw:List Value)(n:Nat),Vals xs cw∧xs.length=cw.length∧s.heap.get? l=some {cls:=.type "list",data:=.seq cw.toArray n}:=by
 obtain⟨z,cw,n,r,e⟩:=I.eZ l _ hH
 exact⟨z,cw,n,r,r.length,e⟩
theorem Js{n:Nat}(h:n≤sizeLine):Builtin.List.listTooLong n=false:=by
 unfold Builtin.List.listTooLong
 exact decide_eq_false (by omega)
end
section
variable{X:Cx}
def MA:V→List V→Hp→VK→Prop:=fun x vs H Q=>∃l xs y,x=.ref l∧vs=[y]∧H l=some (.lst xs)∧xs.length<sizeLine∧Q .fC (upd H l (.lst (xs++[y])))
theorem jn:X3 X "list.append" MA:=by
 intro pins s σ H x vs v us Q I rx rv h
 obtain⟨l,xs,y,rfl,rfl,hH,hz,q⟩:=h
 cases rx
 obtain⟨u,rfl,ru⟩:=rv.one
 obtain⟨z,cw,n,r,hl,e⟩:=I.Gu hH
 refine call_meets F.slot_list_append ⟨_,e,rfl⟩ F.entry_list_append (F.args_list_append_2 _ _) (PySem.list_append l cw.toArray n u (by rw[aV];omega)) ⟨e,?_⟩
 refine⟨.fC,_,I.Qx (its':=cw++[u]) hH e (by simp) (r.append (.cons ru .nil)) ?_,rfl,q⟩
 rw[bC,List.length_singleton]
 omega
def MB:V→List V→Hp→VK→Prop:=fun x vs H Q=>∃l b xs zs,x=.ref l∧vs=[.ref b]∧H l=some (.lst xs)∧H b=some (.lst zs)∧xs.length+zs.length≤sizeLine∧Q .fC (upd H l (.lst (xs++zs)))
theorem pM:X3 X "list.extend" MB:=by
 intro pins s σ H x vs v us Q I rx rv h
 obtain⟨l,b,xs,zs,rfl,rfl,hH,hB,hz,q⟩:=h
 cases rx
 obtain⟨u,rfl,ru⟩:=rv.one
 cases ru
 obtain⟨z,cw,n,r,hl,e⟩:=I.Gu hH
 obtain⟨z2,sZ,n2,r2,oE,e2⟩:=I.Gu hB
 have hsz:cw.toArray.size+sZ.toArray.size≤sizeLine:=by rw[aV,aV];omega
 have Ui: ¬(!cw.toArray.isEmpty&&Builtin.List.listTooLong (cw.toArray.size+sZ.toArray.size))=true:=by
  rw[Js hsz,eO]
  exact bb
 refine call_meets F.slot_list_extend ⟨_,e,rfl⟩ F.entry_list_extend (F.args_list_extend_2 _ _)
  (AutoSeq1.list_extend_list_list_0 l cw.toArray n b sZ.toArray n2 Ui (by rw[aV];omega) (by omega)) ⟨e,e2,?_⟩
 refine⟨.fC,_,I.Qx (its':=cw++sZ) hH e (by simp) (r.append r2) ?_,rfl,q⟩
 rw[bC]
 omega
def Jt:V→List V→Hp→VK→Prop:=fun x vs H Q=>∃l xs,x=.ref l∧vs=[]∧H l=some (.lst xs)∧Q .fC (upd H l (.lst xs.reverse))
theorem Dq:X3 X "list.reverse" Jt:=by
 intro pins s σ H x vs v us Q I rx rv h
 obtain⟨l,xs,rfl,rfl,hH,q⟩:=h
 cases rx
 have hus:=rv.zero
 subst hus
 obtain⟨z,cw,n,r,hl,e⟩:=I.Gu hH
 refine call_meets F.slot_list_reverse ⟨_,e,rfl⟩ F.entry_list_reverse (F.args_list_reverse_1 _) (AutoSeq1.list_reverse_list_0 l cw.toArray n (by rw[aV];omega)) ⟨e,?_⟩
 refine⟨.fC,_,I.Qx (its':=cw.reverse) hH e (by simp) r.reverse ?_,rfl,q⟩
 rw[List.length_reverse]
 omega
def X5:R2:=fun x y H Q=>∃l b xs zs,x=.ref l∧y=.ref b∧H l=some (.lst xs)∧H b=some (.lst zs)∧xs.length+zs.length≤sizeLine∧∀p,H p=none→Q (.ref p) (upd H p (.lst (xs++zs)))
theorem Ju:rM X (binaryOp .Add) X5:=by
 intro pins s σ H x y v u Q I rx ry h
 obtain⟨l,b,xs,zs,rfl,rfl,hH,hB,hz,q⟩:=h
 cases rx
 cases ry
 obtain⟨z,cw,n,r,hl,e⟩:=I.Gu hH
 obtain⟨z2,sZ,n2,r2,oE,e2⟩:=I.Gu hB
 refine PySem.P.add_list e e2 ?_ (by rw[aV,aV];omega)
 have ea:cw.toArray++sZ.toArray=(cw++sZ).toArray:=by simp
 rw[ea]
 exact⟨.ref _,_,I.X4 (t':=s.toks) (r.append r2) (by rw[bC];omega),rfl,q _ I.fresh⟩
end
end L2
namespace L2
open PySem PySem.Spec PyProof.Rows
theorem Vals.ints: ∀{ns:List Int}{us:List Value},Vals (ns.map V.int) us→IntsAre us ns
 |[],us,h=>by
  rw[jw]at h
  cases h
  exact IntsAre.nil
 |n::ns,us,h=>by
  rw[a6]at h
  cases h with
  |cons r t=>
   obtain⟨k,rfl⟩:=r
   exact IntsAre.cons n k (Vals.ints t)
theorem rQ: ∀{us:List Value}{ns:List Int},IntsAre us ns→Vals (ns.map V.int) us
 |_,_,.nil=>by rw[jw];exact Paired.nil
 |_,_,.cons n t h=>by rw[a6];exact Paired.cons (show RelV (V.int n) (Value.int n t)from⟨t,rfl⟩) (rQ h)
theorem Vals.bls: ∀{bs:List Bool}{us:List Value},Vals (bs.map V.bl) us→us=bs.map Value.bool
 |[],us,h=>by
  rw[jw]at h
  cases h
  rfl
 |b::bs,us,h=>by
  rw[a6]at h
  cases h with
  |cons r t=>
   cases r
   rw[Vals.bls t,a6]
theorem Vals.zY{a:Addr}{us:List Value}(r:Vals [V.ref a] us):us=[Value.ref a]:=by
 cases r with
 |cons r t=>
  cases t
  cases r
  rfl
section
variable{prog:Program}{w:World}{A:Around}{E:Value→Shared→Prop}{s:Shared}{l:Addr}{cw:List Value}{ns:List Int}{Q:Value→Shared→Prop}
theorem MC(hh:A.handled=none)(hl:s.heap.IsList l cw.toArray)(hi:IntsAre cw ns)
  (h: ∀h' tk t',(∀b o,s.heap.get? b=some o→h'.get? b=some o)→Q (.int ns.sum t') {s with heap:=h',toks:=tk}):wpAny (model prog w) A (call (.builtin "sum") [.ref l]) Q E s:=by
 obtain⟨xs,e⟩:=hi.allInts.items
 have hn:numsOf (intItems xs).toList=ns:=by rw[←e];exact hi.numsOf
 rw[nums_intItems]at hn
 rw[e]at hl
 refine PySem.sum_intListG hh hl fun h' tk t' hk=>?_
 have:=h h' tk t' hk
 rw[preSum_eq,fh (by simp),hn];exact this
theorem MD(hh:A.handled=none)(hl:s.heap.IsList l cw.toArray)(hi:IntsAre cw ns)(df:0<ns.length)
  (h: ∀h' tk M t',(∀b o,s.heap.get? b=some o→h'.get? b=some o)→M∈ns→(∀a,a∈ns→a≤M)→Q (.int M t') {s with heap:=h',toks:=tk}):wpAny (model prog w) A (call (.builtin "max") [.ref l]) Q E s:=by
 obtain⟨xs,e⟩:=hi.allInts.items
 have hn:numsOf (intItems xs).toList=ns:=by rw[←e];exact hi.numsOf
 rw[nums_intItems]at hn
 subst hn
 rw[e]at hl
 have hsz:0<xs.size:=by simpa using df
 refine PySem.max_intList hh hl hsz fun v h' tk hv hk=>?_
 obtain⟨t,rfl⟩:=intItems_at hv
 obtain⟨h1,h2⟩:=argBest_gt (numAt xs) (xs.size-1)
 refine h h' tk _ t hk ?_ fun a ha=>?_
 ·rw[numAt_eq];exact PySem.getD_mem (by rw[ae,bS];omega)
 ·obtain⟨j,hj,rfl⟩:=mem_getD ha
  rw[ae,bS]at hj
  rw[←numAt_eq];exact h2 j (by omega)
theorem ME(hh:A.handled=none)(hl:s.heap.IsList l cw.toArray)(hi:IntsAre cw ns)(df:0<ns.length)
  (h: ∀h' tk M t',(∀b o,s.heap.get? b=some o→h'.get? b=some o)→M∈ns→(∀a,a∈ns→M≤a)→Q (.int M t') {s with heap:=h',toks:=tk}):wpAny (model prog w) A (call (.builtin "min") [.ref l]) Q E s:=by
 obtain⟨xs,e⟩:=hi.allInts.items
 have hn:numsOf (intItems xs).toList=ns:=by rw[←e];exact hi.numsOf
 rw[nums_intItems]at hn
 subst hn
 rw[e]at hl
 have hsz:0<xs.size:=by simpa using df
 refine PySem.min_intList hh hl hsz fun v h' tk hv hk=>?_
 obtain⟨t,rfl⟩:=intItems_at hv
 obtain⟨h1,h2⟩:=argBest_lt (numAt xs) (xs.size-1)
 refine h h' tk _ t hk ?_ fun a ha=>?_
 ·rw[numAt_eq];exact PySem.getD_mem (by rw[ae,bS];omega)
 ·obtain⟨j,hj,rfl⟩:=mem_getD ha
  rw[ae,bS]at hj
  rw[←numAt_eq];exact h2 j (by omega)
end
section
variable{X:Cx}
def X6(K:W.Frag):List V→Hp→VK→Prop:=fun vs H Q=>∃(a:Addr)(ns:List Int),vs=[V.ref a]∧cy K H a (ns.map V.int)∧Q (.int ns.sum) H
def X7(K:W.Frag):List V→Hp→VK→Prop:=fun vs H Q=>∃(a:Addr)(ns:List Int),vs=[V.ref a]∧cy K H a (ns.map V.int)∧0<ns.length∧∀m,m∈ns→(∀y,y∈ns→y≤m)→Q (.int m) H
def X8(K:W.Frag):List V→Hp→VK→Prop:=fun vs H Q=>∃(a:Addr)(ns:List Int),vs=[V.ref a]∧cy K H a (ns.map V.int)∧0<ns.length∧∀m,m∈ns→(∀y,y∈ns→m≤y)→Q (.int m) H
theorem Jv(hc:X.calm=true):jI X (.builtin "sum") (X6 X.K):=by
 intro pins s σ H vs us Q I r h
 obtain⟨a,ns,rfl,hs,q⟩:=h
 obtain⟨cw,rv,hl,_⟩:=I.list hs
 rw[Vals.zY r]
 exact MC (I.ok.hd hc) hl.isList rv.ints fun h' tk t' hk=>⟨.int _,H,I.kept hk,⟨_,rfl⟩,q⟩
theorem Jw(hc:X.calm=true):jI X (.builtin "max") (X7 X.K):=by
 intro pins s σ H vs us Q I r h
 obtain⟨a,ns,rfl,hs,df,q⟩:=h
 obtain⟨cw,rv,hl,_⟩:=I.list hs
 rw[Vals.zY r]
 exact MD (I.ok.hd hc) hl.isList rv.ints df fun h' tk m t' hk h1 h2=>⟨.int _,H,I.kept hk,⟨_,rfl⟩,q m h1 h2⟩
theorem Qy(hc:X.calm=true):jI X (.builtin "min") (X8 X.K):=by
 intro pins s σ H vs us Q I r h
 obtain⟨a,ns,rfl,hs,df,q⟩:=h
 obtain⟨cw,rv,hl,_⟩:=I.list hs
 rw[Vals.zY r]
 exact ME (I.ok.hd hc) hl.isList rv.ints df fun h' tk m t' hk h1 h2=>⟨.int _,H,I.kept hk,⟨_,rfl⟩,q m h1 h2⟩
theorem EH{n:Nat}(h:n<64):n≤sizeLine:=by rw[bD];omega
end
section
variable{X:Cx}
def Jx(K:W.Frag):V→List V→Hp→VK→Prop:=fun x xs H Q=>∃(a:Addr)(ys:List V)(y:V)(j:Nat)(z:V),x=V.ref a∧xs=[y]∧cy K H a ys∧ml y=true∧ys.all ml=true∧ys[j]? =some z∧Lx z y=true∧
 (∀(m:Nat)(z':V),m<j→ys[m]? =some z'→Lx z' y=false)∧Q (.int (j:Nat)) H
theorem EI{ys:List V}(f:ys.all ml=true){j:Nat}{z:V}(h:ys[j]? =some z):ml z=true:=aW.mp f z (aL h)
theorem Jy:We X "list.index" (Jx X.K):=by
 intro pins s σ H x xs v us Q I rx X9 h
 obtain⟨a,ys,y,j,z,rfl,rfl,hs,fy,Ya,hz,hzj,kd,q⟩:=h
 cases rx
 cases X9 with
 |cons ry rt=>
  rename_i uy ut
  cases rt
  obtain⟨cw,rv,⟨⟨cls,dd,data,sl⟩,n,ho,hc,Lo,hd⟩,hlen⟩:=I.list hs
  simp only at hc hd
  subst hc hd
  obtain⟨u,hu,ru⟩:=rv.get hz
  obtain⟨Jz,hje⟩:=aJ.mp hu
  have hvl:=rv.length
  have hj:j<cw.toArray.size:=by simpa using Jz
  have Sg:=bD
  refine call_meets PySem.F.slot_list_index ⟨_,ho,rfl⟩ PySem.F.entry_list_index (PySem.F.args_list_index_2 _ _)
   (SeqAt.list_indexAt a cw.toArray n dd sl uy (Ly y) j hj (by omega) ?_ ?_) ⟨ho,fun u' hu'=>rP ry fy rv Ya u' (by simpa using hu'),?_⟩
  ·have e1:cw.toArray[j]=u:=by simpa using hje
   rw[e1,zV ru (EI Ya hz)]
   exact hzj
  ·intro m hm hmj
   have yw:m<cw.length:=by simpa using hm
   have hmy:m<ys.length:=by omega
   have LS:ys[m]? =some ys[m]:=aj hmy
   obtain⟨u2,Yb,Yc⟩:=rv.get LS
   obtain⟨_,hme⟩:=aJ.mp Yb
   have e1:cw.toArray[m]=u2:=by simpa using hme
   rw[e1,zV Yc (EI Ya LS)]
   exact kd m _ hmj LS
  ·exact⟨.int (j:Nat),H,I.tok _,⟨_,rfl⟩,q⟩
end
theorem Bz{prog:Program}{w:World}{A:Around}{E:Value→Shared→Prop}{s:Shared}{l:Addr}{items:Array Value}{Q:Value→Shared→Prop}(hl:s.heap.IsList l items)
  (h: ∀s₂:Shared,s₂={s with heap:=s.heap.push {cls:=.type "list_iterator",data:=.fields #[.ref l,.int 0 0]}}→
   (s₂.heap.IsListIter s.heap.objs.size l 0∧s₂.heap.IsList l items)→l≠s.heap.objs.size→Q (.ref s.heap.objs.size) s₂):wpAny (model prog w) A (pyIter (.ref l)) Q E s:=by
 have eI:l<s.heap.objs.size:=by obtain⟨_,e,_⟩:=hl;exact aS e
 exact wpAny_pyIter_list hl (h _ rfl ⟨⟨_,aZ _ rfl,rfl,rfl⟩,hl.push _⟩ (br eI))
theorem BA{prog:Program}{w:World}{A:Around}{bs:List Bool}{cw:List Value}(e:cw=bs.map Value.bool):
  TruthOf prog w A (fun i v=>cw.toArray[i]? =some v) (fun i=>bs.getD i false):=fun i v s Q E hv hq=>by
 have vz:cw[i]? =some v:=by simpa using hv
 rw[e,ag]at vz
 obtain⟨b,hb,rfl⟩:=Option.map_eq_some_iff.mp vz
 have hg:bs.getD i false=b:=by rw[af,hb]<;>rfl
 have Jk:Q (bs.getD i false) s:=hq
 rw[hg]at Jk
 exact eC Jk
theorem any_range: ∀bs:List Bool,(List.range bs.length).any (fun i=>bs.getD i false)=bs.any id
 |[]=>rfl
 |b::bs=>by
  rw[aC,ej,sm,List.any_map,sm,←any_range bs]
  all_goals rfl
theorem all_range: ∀bs:List Bool,(List.range bs.length).all (fun i=>bs.getD i false)=bs.all id
 |[]=>rfl
 |b::bs=>by
  rw[aC,ej,List.all_cons,List.all_map,List.all_cons,←all_range bs]
  all_goals rfl
section
variable{X:Cx}
def Yd(K:W.Frag):List V→Hp→VK→Prop:=fun vs H Q=>∃(a:Addr)(bs:List Bool),vs=[V.ref a]∧cy K H a (bs.map V.bl)∧Q (.bl (bs.all id)) H
theorem Qz(hc:X.calm=true):jI X (.builtin "all") (Yd X.K):=by
 intro pins s σ H vs us Q I r h
 obtain⟨a,bs,rfl,hs,q⟩:=h
 obtain⟨cw,rv,hl,_⟩:=I.list hs
 rw[Vals.zY r]
 have hb:=rv.bls
 refine call_all_walk (Bz hl.isList fun s₂ e2 st df=>?_)
 subst e2
 refine⟨_,_,_,_,_,_,_,rfl,Walks.list (A:=X.A.in1) (I.ok.hd hc) _ a df cw.toArray,st,BA hb,fun h' tk hk=>?_⟩
 refine⟨.bl _,H,I.kept fun b o eo=>hk b o (fun i8=>?_) (aw _ eo),?_,q⟩
 ·rcases aH.mp i8 with e1|i8
  ·exact absurd (e1▸aS eo) (eh _)
  ·cases i8
 ·show Value.bool _=Value.bool _
  rw[←all_range,hb,aV,ae]
end
mutual
inductive Dp(K:W.Frag)(H:Hp):V→PyData→Prop
 |fC:Dp K H .fC .none
 |bl (b:Bool):Dp K H (.bl b) (.bool b)
 |int (i:Int):Dp K H (.int i) (.int i)
 |str (x:Str):Dp K H (.str x) (.str x)
 |lst {a:Addr} {xs:List V} {ds:List PyData}:cy K H a xs→wC K H xs ds→Dp K H (.ref a) (.list ds)
 |tup {a:Addr} {xs:List V} {ds:List PyData}:Ls K H a xs→wC K H xs ds→Dp K H (.ref a) (.tuple ds)
inductive wC(K:W.Frag)(H:Hp):List V→List PyData→Prop
 |nil:wC K H [] []
 |cons {v:V} {vs:List V} {d:PyData} {ds:List PyData}:Dp K H v d→wC K H vs ds→wC K H (v::vs) (d::ds)
end
section
variable{X:Cx}{pins:List (Addr×Obj)}{σ:St}{H:Hp}{s:Shared}
mutual
theorem Dp.reads(I:Inv X pins σ H s): ∀(d:PyData)(v:V)(u:Value),Dp X.K H v d→RelV v u→∃as,Reads s.heap u d as
 |.none,_,_,h,r=>by
  cases h
  cases r
  exact⟨_,Reads.none⟩
 |.bool b,_,_,h,r=>by
  cases h
  cases r
  exact⟨_,Reads.bool b⟩
 |.int i,_,_,h,r=>by
  cases h
  obtain⟨t,rfl⟩:=r
  exact⟨_,Reads.int i t⟩
 |.str x,_,_,h,r=>by
  cases h
  obtain⟨t,rfl⟩:=r
  exact⟨_,Reads.str x t⟩
 |.list ds,_,_,h,r=>by
  cases h with
  |lst hs ha=>
   cases r
   obtain⟨cw,rv,⟨o,n,ho,hc,_,hd⟩,_⟩:=I.list hs
   obtain⟨as,hr⟩:=Dp.readsAll I ds _ cw ha rv
   exact⟨_,Reads.list ho hc hd hr⟩
 |.tuple ds,_,_,h,r=>by
  cases h with
  |tup hs ha=>
   cases r
   obtain⟨cw,rv,⟨o,ho,hc,n,hd⟩,_⟩:=I.tuple hs
   obtain⟨as,hr⟩:=Dp.readsAll I ds _ cw ha rv
   exact⟨_,Reads.tuple ho hc hd hr⟩
 |.dict _,_,_,h,_=>by cases h
theorem Dp.readsAll(I:Inv X pins σ H s): ∀(ds:List PyData)(vs:List V)(us:List Value),wC X.K H vs ds→Vals vs us→∃as,ReadsAll s.heap us ds as
 |[],_,_,h,r=>by
  cases h
  cases r
  exact⟨_,ReadsAll.nil⟩
 |d::ds,_,_,h,r=>by
  cases h with
  |cons h1 h2=>
   cases r with
   |cons r1 r2=>
    obtain⟨as,q1⟩:=Dp.reads I d _ _ h1 r1
    obtain⟨bs,q2⟩:=Dp.readsAll I ds _ _ h2 r2
    exact⟨_,ReadsAll.cons q1 q2⟩
end
end
section
variable{X:Cx}
def Ye(K:W.Frag):R2:=fun x y H Q=>∃d e,Dp K H x d∧Dp K H y e∧SeqAt.shaped d=true∧SeqAt.shaped e=true∧Q (.bl (PyData.eqv d e)) H
def Yf(K:W.Frag):R2:=fun x y H Q=>∃d e,Dp K H x d∧Dp K H y e∧SeqAt.shaped d=true∧SeqAt.shaped e=true∧Q (.bl (!PyData.eqv d e)) H
theorem QA(hu:X.A.units+64<cLine):rM X (compareOp .Eq) (Ye X.K):=by
 intro pins s σ H x y v u Q I rx ry h
 obtain⟨d,e,hd,he,sd,se,q⟩:=h
 obtain⟨as,r1⟩:=Dp.reads I d x v hd rx
 obtain⟨bs,r2⟩:=Dp.reads I e y u he ry
 exact SeqAt.compareEq_shaped r1 r2 sd se hu ⟨.bl _,H,I,rfl,q⟩
theorem QB(hu:X.A.units+64<cLine):rM X (compareOp .NotEq) (Yf X.K):=by
 intro pins s σ H x y v u Q I rx ry h
 obtain⟨d,e,hd,he,sd,se,q⟩:=h
 obtain⟨as,r1⟩:=Dp.reads I d x v hd rx
 obtain⟨bs,r2⟩:=Dp.reads I e y u he ry
 exact SeqAt.compareNe_shaped r1 r2 sd se hu ⟨.bl _,H,I,rfl,q⟩
end
end L2
namespace L2
open PySem PySem.Spec PyProof.Rows
abbrev JA(h:Heap)(c:Addr)(v:Option Value):Prop:=h.IsCell c v
def Yg(scope sc:Scope):Scope:=
 {scope with names:=scope.names.map fun(n,k)=>if(k==.free&&sc.kind==.function&&sc.names.lookup n==some .cell)then(n,.cell)else(n,k)}
def d9(cells:List (Str×Addr)):List (Str×NameKind)→List (Str×Addr)→List (Str×Addr)
 |[],acc=>acc
 |(n,k)::r,acc=>if k==.free then d9 cells r ((n,(cells.lookup n).getD 0)::acc)else d9 cells r acc
theorem rR(env:Env)(f:Str×NameKind→List (Str×Addr)→Sem (ForInStep (List (Str×Addr))))
  (hf: ∀n k c,f (n,k) c=if k==.free then(do let a←cellOf env n;pure (.yield ((n,a)::c)))else pure (.yield c)):
  ∀(names:List (Str×NameKind))(acc:List (Str×Addr)),(∀y∈names,y.2=.free→∃c,env.cells.lookup y.1=some c)→forIn names acc f=pure (d9 env.cells names acc)
 |[],acc,_=>by rw[List.forIn_nil];rfl
 |(n,k)::r,acc,h=>by
  rw[List.forIn_cons,hf]
  have ih:=fun acc=>rR env f hf r acc fun y hy=>h y (bu _ hy)
  unfold d9
  by_cases hk:(k==NameKind.free)=true
  ·rw[aO hk,aO hk]
   obtain⟨c,hc⟩:=h (n,k) cv (by simpa using hk)
   have e:cellOf env n=pure c:=by unfold cellOf;rw[hc]
   rw[e]
   have e2:(env.cells.lookup n).getD 0=c:=by rw[hc];rfl
   rw[e2]
   exact ih _
  ·rw[aI hk,aI hk]
   exact ih _
theorem Dr{scope:Scope}{env:Env}(h: ∀y∈scope.names,y.2=.free→∃c,env.cells.lookup y.1=some c):closureFor scope env=pure (d9 env.cells scope.names []):=by
 simp only[closureFor]
 rw[rR env _ (fun n k c=>rfl) scope.names [] h]
 rfl
theorem mem_lookup{α:Type}: ∀{l:List (Str×α)}{n:Str}{c:α},(n,c)∈l→∃c',l.lookup n=some c'
 |(k,v)::r,n,c,h=>by
  rw[gK]
  cases hb:n==k with
  |true=>exact⟨_,rfl⟩
  |false=>
   rcases aH.mp h with e|h
   ·cases e;simp at hb
   ·exact mem_lookup h
theorem lB{cells:List (Str×Addr)}: ∀{names:List (Str×NameKind)}{acc:List (Str×Addr)}{n:Str}{c:Addr},(n,c)∈d9 cells names acc→(n,c)∈acc∨((n,.free)∈names∧c=(cells.lookup n).getD 0)
 |[],_,_,_,h=>.inl h
 |(m,k)::r,acc,n,c,h=>by
  unfold d9 at h
  split at h
  ·rename_i hk
   have hk:k=.free:=by simpa using hk
   rcases lB h with h|⟨h1,h2⟩
   ·rcases aH.mp h with e|h
    ·cases e;exact .inr ⟨hk▸cv,rfl⟩
    ·exact .inl h
   ·exact .inr ⟨bu _ h1,h2⟩
  ·rcases lB h with h|⟨h1,h2⟩
   ·exact .inl h
   ·exact .inr ⟨bu _ h1,h2⟩
theorem oT{cells:List (Str×Addr)}: ∀{names:List (Str×NameKind)}{acc:List (Str×Addr)}{p:Str×Addr},p∈acc→p∈d9 cells names acc
 |[],_,_,h=>h
 |(m,k)::r,acc,p,h=>by
  unfold d9
  split
  ·exact oT (bu _ h)
  ·exact oT h
theorem oU{cells:List (Str×Addr)}: ∀{names:List (Str×NameKind)}{acc:List (Str×Addr)}{n:Str},(n,.free)∈names→(n,(cells.lookup n).getD 0)∈d9 cells names acc
 |(m,k)::r,acc,n,h=>by
  unfold d9
  rcases aH.mp h with e|h
  ·cases e
   exact oT cv
  ·split
   ·exact oU h
   ·exact oU h
theorem mn: ∀{names:List (Str×NameKind)}{h:Heap}{acc:List (Str×Addr)}{x:Str}{c:Addr},(x,c)∈cellsFrom h.objs.size names acc→
  (x,c)∈acc∨((x,.cell)∈names∧h.objs.size≤c∧JA (pushCells h names) c none)
 |[],_,_,_,_,h=>.inl h
 |(n,k)::r,h,acc,x,c,hm=>by
  unfold cellsFrom at hm
  unfold pushCells
  split at hm
  ·rename_i hk
   rw[aO hk]
   have hk:k=.cell:=by simpa using hk
   rw[←cD h {cls:=.type "cell",data:=.cell none}]at hm
   rcases mn hm with hm|⟨h1,h2,h3⟩
   ·rcases aH.mp hm with e|hm
    ·cases e
     exact .inr ⟨hk▸cv,aq _,_,AK r _ _ _ (aZ _ rfl),rfl⟩
    ·exact .inl hm
   ·rw[cD]at h2
    exact .inr ⟨bu _ h1,qP h2,h3⟩
  ·rename_i hk
   rw[aI hk]
   rcases mn hm with hm|⟨h1,h2,h3⟩
   ·exact .inl hm
   ·exact .inr ⟨bu _ h1,h2,h3⟩
theorem pN: ∀{names:List (Str×NameKind)}{n:Nat}{acc:List (Str×Addr)}{p:Str×Addr},p∈acc→p∈cellsFrom n names acc
 |[],_,_,_,h=>h
 |(m,k)::r,n,acc,p,h=>by
  unfold cellsFrom
  split
  ·exact pN (bu _ h)
  ·exact pN h
theorem tf: ∀{names:List (Str×NameKind)}{n:Nat}{acc:List (Str×Addr)}{x:Str},(x,.cell)∈names→∃c,(x,c)∈cellsFrom n names acc
 |(m,k)::r,n,acc,x,h=>by
  unfold cellsFrom
  rcases aH.mp h with e|h
  ·cases e
   exact⟨n,pN cv⟩
  ·split
   ·exact tf h
   ·exact tf h
theorem tj: ∀{names:List (Str×NameKind)}{h:Heap}{acc:List (Str×Addr)}{x y:Str}{c:Addr},(∀p∈acc,p.2<h.objs.size)→(∀x y c,(x,c)∈acc→(y,c)∈acc→x=y)→
  (x,c)∈cellsFrom h.objs.size names acc→(y,c)∈cellsFrom h.objs.size names acc→x=y
 |[],_,_,_,_,_,_,hi,h1,h2=>hi _ _ _ h1 h2
 |(n,k)::r,h,acc,x,y,c,hl,hi,h1,h2=>by
  unfold cellsFrom at h1 h2
  split at h1
  ·rename_i hk
   rw[aO hk]at h2
   rw[←cD h {cls:=.type "cell",data:=.cell none}]at h1 h2
   refine tj (h:=h.push _) (fun p hp=>?_) (fun x y c a b=>?_) h1 h2
   ·rw[cD]
    rcases aH.mp hp with rfl|hp
    ·exact mH _
    ·exact iN (hl p hp)
   ·rcases aH.mp a with e|a<;>rcases aH.mp b with e'|b
    ·cases e;cases e';rfl
    ·cases e;exact absurd (hl _ b) (eh _)
    ·cases e';exact absurd (hl _ a) (eh _)
    ·exact hi _ _ _ a b
  ·rename_i hk
   rw[aI hk]at h2
   exact tj hl hi h1 h2
theorem BB{M:Model}{A:Around}{E:Value→Shared→Prop}{s:Shared}{scope:Scope}{globals:Addr}{closure:List (Str×Addr)}{qual:Str}{func:Option Addr}{code:Value}{around:Env}{builtins:Addr}{Q:Env→Shared→Prop}
  (h:Q (newEnv scope s.heap.objs.size globals (cellsFrom (s.heap.objs.size+1) scope.names closure) qual func code (some around) builtins)
   {s with heap:=pushCells (s.heap.push {cls:=.type "dict",data:=.dict #[]}) scope.names}):
  wpAny M A (newFunctionEnv scope globals closure [] qual func code (some around) builtins) Q E s:=by
 simp only[newFunctionEnv,Option.isSome_some,fD]
 refine wpAny_bind (wpAny_alloc ?_)
 refine wpAny_bind (wpAny_layCells _ (fun n k c=>rfl) scope.names closure _ _ ?_)
 rw[show({s with heap:=s.heap.push {cls:=.type "dict",data:=.dict #[]}}:Shared).heap.objs.size=s.heap.objs.size+1 from cD ..]
 rw[List.forIn_nil]
 exact wpAny_bind (aF (aF h))
theorem oV{sc:Scope}: ∀{names:List (Str×NameKind)}{x:Str}{k:NameKind},
  (names.map fun(n,k)=>if(k==NameKind.free&&sc.kind==.function&&sc.names.lookup n==some .cell)then(n,NameKind.cell)else(n,k)).lookup x=some k→
  ∃k',names.lookup x=some k'∧(k=k'∨(k'=.free∧k=.cell))
 |[],_,_,h=>by simp at h
 |(n,k₀)::r,x,k,h=>by
  have ih:=@oV sc r x k
  have h':List.lookup x ((if(k₀==NameKind.free&&sc.kind==.function&&sc.names.lookup n==some .cell)=true then(n,NameKind.cell)else(n,k₀))::(r.map _))=some k:=h
  cases hx:x==n with
  |true=>
   simp only[gK,hx]
   by_cases hc:(k₀==NameKind.free&&sc.kind==.function&&sc.names.lookup n==some .cell)=true
   ·rw[aO hc]at h'
    simp only[gK,hx]at h'
    cases h'
    simp only[aN,cV]at hc
    exact⟨k₀,rfl,.inr ⟨hc.1.1,rfl⟩⟩
   ·rw[aI hc]at h'
    simp only[gK,hx]at h'
    cases h'
    exact⟨_,rfl,.inl rfl⟩
  |false=>
   simp only[gK,hx]
   by_cases hc:(k₀==NameKind.free&&sc.kind==.function&&sc.names.lookup n==some .cell)=true
   ·rw[aO hc]at h'
    simp only[gK,hx]at h'
    exact ih h'
   ·rw[aI hc]at h'
    simp only[gK,hx]at h'
    exact ih h'
structure BC(N:List Str)(sc scope:Scope)(own:List (Str×Nat)):Prop where
 kind:scope.kind=.function
 uniq: ∀y∈scope.names,scope.names.lookup y.1=some y.2
 ix: ∀p∈own,N[p.2]? =some p.1
 free: ∀y∈scope.names,y.2=.free→sc.names.lookup y.1=some .cell∨sc.names.lookup y.1=some .free
 own: ∀y∈scope.names,y.2=.local∨y.2=.cell→y.1∈own.map (·.1)∨y.1∉N
def wipe(σ:St):List Nat→St
 |[]=>σ
 |v::vs=>(wipe σ vs).set v none
theorem oW(σ:St): ∀vs:List Nat,(wipe σ vs).length=σ.length
 |[]=>rfl
 |v::vs=>by unfold wipe;rw[uZ,oW σ vs]
theorem tm{σ:St}{i:Nat}{x:V}: ∀{vs:List Nat},(wipe σ vs)[i]? =some (some x)→σ[i]? =some (some x)∧i∉vs
 |[],h=>⟨h,by simp⟩
 |v::vs,h=>by
  unfold wipe at h
  by_cases hi:v=i
  ·subst hi
   by_cases hv:v<(wipe σ vs).length
   ·rw[k8 hv]at h;cases h
   ·rw[cN (by simpa using hv)]at h;cases h
  ·rw[nH hi]at h
   obtain⟨h1,h2⟩:=tm h
   exact⟨h1,by simp only[aH,not_or];exact⟨fun e=>hi e.symm,h2⟩⟩
abbrev Cx.z0(X:Cx)(s:Shared)(H:Hp)(scope:Scope)(iI:Env)(fp:List Addr):Cx:={X with yk:=s,Ts:=H,env:=iI,outer:=X.stack,ex:=fp,fn:=fun x=>scope.names.lookup x==some .cell,pn:=[],xe:=fun _ _=>False}
section
variable{X:Cx}{pins:List (Addr×Obj)}{σ:St}{H:Hp}{s:Shared}
theorem BD{scope:Scope}{own:List (Str×Nat)}{fp:List Addr}(I:Inv X pins σ H s)(ok:BC X.N X.env.scope scope own)(hN:X.N.Nodup)(Sh: ∀b∈fp,uv X pins H b∧b<s.heap.objs.size):
  Inv (X.z0 s H scope (compEnvC scope (cellsFrom (s.heap.objs.size+1) scope.names (d9 X.env.cells scope.names [])) s.heap.objs.size X.env) fp) [] (wipe σ (own.map (·.2))) H {s with heap:=pushCells (s.heap.push {cls:=.type "dict",data:=.dict #[]}) scope.names}:=by
 have yn: ∀y∈scope.names,y.2=.free→∃c,X.env.cells.lookup y.1=some c:=fun y hy e=>by
  rcases ok.free y hy e with k|k
  ·exact I.ok.has _ (.inl k)
  ·exact I.ok.has _ (.inr k)
 generalize BE:compEnvC scope (cellsFrom (s.heap.objs.size+1) scope.names (d9 X.env.cells scope.names [])) s.heap.objs.size X.env=iI
 have kp: ∀b o,s.heap.get? b=some o→(pushCells (s.heap.push {cls:=.type "dict",data:=.dict #[]}) scope.names).get? b=some o:=fun b o e=>AK _ _ _ _ (aw _ e)
 have hL:iI.locals=s.heap.objs.size:=by rw[←BE];rfl
 have lO:iI.cells=cellsFrom (s.heap.objs.size+1) scope.names (d9 X.env.cells scope.names []):=by rw[←BE];rfl
 have Eb:iI.scope=Yg scope X.env.scope:=by rw[←BE];rfl
 rw[←cD s.heap {cls:=.type "dict",data:=.dict #[]}]at lO
 have cm: ∀{y c},(y,c)∈d9 X.env.cells scope.names []→X.env.cells.lookup y=some c∧c<s.heap.objs.size:=fun{y c} hm=>by
  rcases lB hm with hm|⟨h1,rfl⟩
  ·cases hm
  ·obtain⟨c,hc⟩:=yn _ h1 rfl
   rw[hc]
   obtain⟨w,z⟩:=I.cell _ _ hc
   exact⟨rfl,z.lt⟩
 have mem: ∀{y c},iI.cells.lookup y=some c→(X.env.cells.lookup y=some c∧c<s.heap.objs.size)∨(s.heap.objs.size+1≤c∧JA (pushCells (s.heap.push {cls:=.type "dict",data:=.dict #[]}) scope.names) c none):=fun{y c} e=>by
  rw[lO]at e
  rcases mn (bT e)with hm|⟨_,h2,h3⟩
  ·exact .inl (cm hm)
  ·rw[cD]at h2;exact .inr ⟨h2,h3⟩
 have look: ∀{y},scope.names.lookup y=some .free→∃c,iI.cells.lookup y=some c∧X.env.cells.lookup y=some c:=fun{y} hl=>by
  have hy:(y,NameKind.free)∈scope.names:=bT hl
  obtain⟨c',e'⟩:=mem_lookup (pN (names:=scope.names) (n:=(s.heap.push {cls:=.type "dict",data:=.dict #[]}).objs.size) (oU (cells:=X.env.cells) (acc:=[]) hy))
  rw[←lO]at e'
  refine⟨c',e',?_⟩
  rw[lO]at e'
  rcases mn (bT e')with hm|⟨h1,_,_⟩
  ·exact(cm hm).1
  ·have:=ok.uniq _ h1
   rw[hl]at this;cases this
 have okB:(X.z0 s H scope iI fp).Ok:=by
  refine⟨I.ok.mod,by show iI.scope.kind=_;rw[Eb];exact ok.kind,by show iI.globals=_;rw[←BE];exact I.ok.glob,by show iI.builtins=_;rw[←BE];exact I.ok.blt,by show s.heap.objs.size≤iI.locals;rw[hL];exact aq _,
   fun y z c e1 e2=>?_,fun y hy=>?_,fun y c z e=>?_,I.ok.hd,I.ok.frames,.inl rfl,fun b hb=>⟨?_,fun y c e z=>?_⟩,I.bs,bW I.ok.Lr I.sz,fun b o e hb=>?_,fun b hb z=>?_,I.stack,I.Eu⟩
  ·have e1:iI.cells.lookup y=some c:=e1
   have e2:iI.cells.lookup z=some c:=e2
   rw[lO]at e1 e2
   refine tj (fun p hp=>?_) (fun y z c a b=>I.ok.inj y z c (cm a).1 (cm b).1) (bT e1) (bT e2)
   rw[cD]
   exact iN (cm (y:=p.1) (c:=p.2) hp).2
  ·show∃c,iI.cells.lookup y=some c
   have key: ∀k,iI.kindOf y=some k→(k=.cell∨k=.free)→∃c,iI.cells.lookup y=some c:=fun k hk JB=>by
    unfold Env.kindOf at hk
    rw[Eb]at hk
    obtain⟨k',e,r⟩:=oV hk
    have:k'=.cell∨k'=.free:=by
     rcases r with rfl|⟨rfl,_⟩
     ·exact JB
     ·exact .inr rfl
    rcases this with rfl|rfl
    ·obtain⟨c,hm⟩:=tf (n:=(s.heap.push {cls:=.type "dict",data:=.dict #[]}).objs.size) (acc:=d9 X.env.cells scope.names []) (bT e)
     obtain⟨c',e'⟩:=mem_lookup hm
     exact⟨c',by rw[lO];exact e'⟩
    ·obtain⟨c,h1,_⟩:=look e
     exact⟨c,h1⟩
   rcases hy with hy|hy
   ·exact key _ hy (.inl rfl)
   ·exact key _ hy (.inr rfl)
  ·have z:(scope.names.lookup y==some NameKind.cell)=true:=z
   have z:scope.names.lookup y=some .cell:=by simpa using z
   have e:iI.cells.lookup y=some c:=e
   rw[lO]at e
   rcases mn (bT e)with hm|⟨_,h2,_⟩
   ·rcases lB hm with hm|⟨h1,_⟩
    ·cases hm
    ·have q:=ok.uniq _ h1
     rw[z]at q;cases q
   ·rw[cD]at h2
    exact qP h2
  ·show b≠iI.locals
   rw[hL];exact br (Sh b hb).2
  ·have e:iI.cells.lookup y=some c:=e
   rcases mem e with⟨h1,_⟩|⟨h1,_⟩
   ·exact(Sh b hb).1.2.2.2.2.1 y c h1 z
   ·have h2:s.heap.objs.size+1≤b:=by rw[←z];exact h1
    exact absurd (bJ (Sh b hb).2 (qP h2)) (eh _)
  ·rcases(Sh b hb).1.2.2.2.1 with z|z
   ·exact I.ok.IT b o e z
   ·exact absurd (bJ (aS e) (bW I.ok.Lr z)) (eh _)
  ·rcases aH.mp (I.C9 b z)with z|z
   ·exact(Sh b hb).1.2.1 z
   ·exact(Sh b hb).1.2.2.1 z
 refine⟨okB,rfl,I.bare,Un.kept kp,⟨fun _=>none,?_,fun i y av e1 e2 e3=>?_⟩,fun y c e=>?_,?_,fun y c e=>?_,fun p hp=>?_,I.eZ.kept kp,by rw[oW];exact I.len⟩
 ·show Heap.Ns _ iI.locals _
  rw[hL]
  exact Heap.Ns.keeps (Heap.Ns.new ..) fun b o e=>AK _ _ _ _ e
 ·obtain⟨e2,df⟩:=tm e2
  have Gv:scope.names.lookup y=some .free∧(iI.kindOf y=some .cell∨iI.kindOf y=some .free):=by
   have key: ∀k,iI.scope.names.lookup y=some k→k=.local∨k=.cell∨k=.free→scope.names.lookup y=some .free∧(iI.kindOf y=some .cell∨iI.kindOf y=some .free):=fun k hk JB=>by
    have Lm:=hk
    rw[Eb]at hk
    obtain⟨k',e,r⟩:=oV hk
    have no: ¬(k'=.local∨k'=.cell):=fun hh=>by
     rcases ok.own _ (bT e) hh with e'|e'
     ·obtain⟨p,hp,hpy⟩:=ay.mp e'
      have e3:=ok.ix p hp
      have:p.1=y:=hpy
      rw[this]at e3
      exact df (ay.mpr ⟨p,hp,wo hN e3 e1⟩)
     ·exact e' (aL e1)
    rcases r with rfl|⟨rfl,rfl⟩
    ·rcases JB with rfl|rfl|rfl
     ·exact absurd (.inl rfl) no
     ·exact absurd (.inr rfl) no
     ·exact⟨e,.inr Lm⟩
    ·exact⟨e,.inl Lm⟩
   have e3:R8 iI.scope y:=e3
   rcases e3 with e3|e3|e3
   ·exact key _ e3 (.inl rfl)
   ·exact key _ e3 (.inr (.inl rfl))
   ·exact key _ e3 (.inr (.inr rfl))
  obtain⟨m,hn,hl⟩:=I.loc
  have Yh:R8 X.env.scope y:=(ok.free _ (bT Gv.1) rfl).elim (fun k=>.inr (.inl k)) (fun k=>.inr (.inr k))
  obtain⟨w,r,q⟩:=hl i y av e1 e2 Yh
  refine⟨w,r,.inr ⟨Gv.2,?_⟩⟩
  obtain⟨c,h1,h2⟩:=look Gv.1
  rcases q with⟨k,_⟩|⟨_,c',e',z⟩
  ·have k:X.env.scope.names.lookup y=some .local:=k
   rcases ok.free _ (bT Gv.1) rfl with k'|k'<;>rw[show X.env.scope.names.lookup y=_ from k']at k<;>cases k
  ·rw[h2]at e';cases e'
   exact⟨c,h1,z.keeps kp⟩
 ·have e:iI.cells.lookup y=some c:=e
  rcases mem e with⟨h1,_⟩|⟨_,z⟩
  ·obtain⟨w,z⟩:=I.cell y c h1
   exact⟨w,z.keeps kp⟩
  ·exact⟨_,z⟩
 ·show H iI.locals=none
  rw[hL];exact I.eZ.fresh (aq _)
 ·have e:iI.cells.lookup y=some c:=e
  rcases mem e with⟨h1,_⟩|⟨h1,_⟩
  ·exact I.n8 y c h1
  ·exact I.eZ.fresh (qP h1)
 ·exact absurd (show p∈([]:List (Addr×Obj))++[]from hp) (by simp)
theorem QC{E:Value→Shared→Prop}{D:Addr}{xs:List V}{y:V}{v:Value}{Q:Value→Shared→Prop}(I:Inv X pins σ H s)(hD:H D=some (.lst xs))(hz:xs.length<sizeLine)(r:RelV y v)
  (h: ∀s',Inv X pins σ (upd H D (.lst (xs++[y]))) s'→Q .none s'):wpAny (model X.prog X.w) X.A (call (.builtin "list.append") [.ref D,v]) Q E s:=by
 obtain⟨xF,cw,n,ri,e⟩:=I.eZ D _ hD
 have hl:=ri.length
 refine append_at (hsz:=by rw[aV];omega) e fun h' sb zJ=>?_
 refine h {s with heap:=h'} (I.write (t':=s.toks) (by rw[hD];trivial) (.inl rfl) (fun b u hb q=>(sb.2 b hb).trans q) ⟨_,zJ⟩ ⟨by rw[bC];exact hz,cw++[v],n+1,ri.append (.cons r .nil),?_⟩)
 rw[zJ]
 simp
def Uj(X:Cx)(ifs:List Expr)(t:TT):Prop:=
 ∀(pins:List (Addr×Obj))(s:Shared)(σ:St)(H:Hp)(Q:Bool→Hp→Prop),Inv X pins σ H s→t σ H Q→
  wpAny (model X.prog X.w) X.A (forIn ifs true fun c r=>if r=true then do let ok←isTrue c X.env (eval c X.env);pure (ForInStep.yield ok)else pure (ForInStep.yield r)) (TP X pins σ Q) X.xe s
def MG:TT:=fun _ H Q=>Q true H
theorem cZ:Uj X [] MG:=fun _ _ _ H _ I h=>wpAny_tests_nil ⟨H,I,h⟩
theorem EJ{c:Expr}{t:TT}(h:PT X c t):Uj X [c] t:=fun pins s σ H Q I hw=>wpAny_tests_one (h pins s σ H Q I hw)
end
theorem Gw{α:Type}{t:Sem α}{Q Q':α→Shared→Prop}{M:Model}{A:Around}{E:Value→Shared→Prop}{s:Shared}(h:wpAny M A t Q (fun _ _=>False) s)(hQ: ∀a s,Q a s→Q' a s):wpAny M A t Q' E s:=i5 h hQ fun _ _ z=>False.elim z
theorem Aa{prog:Program}{w:World}{A:Around}{R:Result→Shared→Prop}{s:Shared}{elt target iter:Expr}{ifs:List Expr}{scope:Scope}{pos:Pos}{it acc:Value}{env:Env}(I:Nat→Shared→Prop)
  (turn: ∀n s,I n s→wpAny (model prog w) A (pyNext it) (fun r s₁=>match r with
   |none=>R (.ok .next) s₁
   |some v=>wpAny (model prog w) A (letOwnedTupleGo target it v) (fun _ Ow=>wpAny (model prog w) A (assign target env v) (fun _ s₂=>
     wpAny (model prog w) A (forIn ifs true fun c r=>if r=true then do let ok←isTrue c env (eval c env);pure (ForInStep.yield ok)else pure (ForInStep.yield r)) (fun ok s₃=>
      if ok=true then wpAny (model prog w) A (eval elt env) (fun x s₄=>
       wpAny (model prog w) A (call (.builtin "list.append") [acc,x]) (fun _ s₅=>∃m,m<n∧I m s₅) (notedBy (model prog w) A env fun e s'=>R (.error e) s') s₄) (notedBy (model prog w) A env fun e s'=>R (.error e) s') s₃
      else∃m,m<n∧I m s₃) (notedBy (model prog w) A env fun e s'=>R (.error e) s') s₂) (notedBy (model prog w) A env fun e s'=>R (.error e) s') Ow) (notedBy (model prog w) A env fun e s'=>R (.error e) s') s₁) (notedBy (model prog w) A env fun e s'=>R (.error e) s') s)
  (n:Nat)(h:I n s):
  codeAny (model prog w) A (.compLoop (.ListComp elt [⟨target,iter,ifs,0⟩] scope pos) 0 it acc env) R s:=by
 refine codeAny_loop rfl I (fun n s hI=>?_) n h
 show wpAny _ A ((compTurn (.ListComp elt [⟨target,iter,ifs,0⟩] scope pos) 0 it acc env).onRaise (fun x=>do noteFrame x env;theTreesLotGoes x)) _ _ s
 refine wpAny_noted ?_
 rw[compTurn_list]
 refine wpAny_bind (wpAny_standAt (wpAny_bind (i5 (turn n s hI) (fun r s₁ h₁=>?_) fun _ _ h'=>h')))
 cases r with
 |none=>exact aF h₁
 |some v=>
  refine wpAny_bind (i5 h₁ (fun _ Ow Uk=>?_) fun _ _ h'=>h')
  refine wpAny_bind (i5 Uk (fun _ s₂ h₂=>wpAny_bind (i5 h₂ (fun ok s₃ h₃=>?_) fun _ _ h'=>h')) fun _ _ h'=>h')
  cases ok with
  |false=>exact aF ⟨rfl,h₃⟩
  |true=>
   exact wpAny_bind (wpAny_bind (i5 h₃ (fun x s₄ h₄=>wpAny_bind (i5 h₄ (fun _ s₅ h₅=>aF (aF ⟨rfl,h₅⟩)) fun _ _ h'=>h')) fun _ _ h'=>h'))
section
variable{X:Cx}
def Wf(wi:TI)(g:TG)(tt:TT)(te:TE)(vs:List Nat):TE:=fun σ H Q=>wi σ H fun J H1=>∀D,H1 D=none→∃W:Nat→Nat→Hp→Prop,(∃m,W 0 m (upd H1 D (.lst [])))∧∀i m H,W i m H→
 (J.stop i H∧Q (.ref D) H)∨(J.go i H∧∃Nx:Hp→Prop,(∀H',Nx H'→∃m',m'<m∧W (i+1) m' H')∧∀x H',J.uu i H x H'→g x (wipe σ vs) H' fun σ2 H2=>wipe σ2 vs=wipe σ vs∧tt σ2 H2 fun b H3=>
  if b=true then te σ2 H3 fun y H4=>∃acc,H4 D=some (.lst acc)∧acc.length<sizeLine∧Nx (upd H4 D (.lst (acc++[y])))else Nx H3)
theorem EK{pins:List (Addr×Obj)}{s:Shared}{σ:St}{H:Hp}{Q:VK}{elt tg iter:Expr}{ifs:List Expr}{scope:Scope}{own:List (Str×Nat)}{pos pos':Pos}{wi:TI}{g:TG}{tt:TT}{te:TE}{use:Option (Value→Sem Unit)}{Qf:Value→Shared→Prop}
  (hc:X.calm=true)(hN:X.N.Nodup)(I:Inv X pins σ H s)(hi:PI X tg iter wi)(ok:BC X.N X.env.scope scope own)
  (hg: ∀(s:Shared)(H:Hp)(C:Addr)(cl:List (Str×Addr))(fp:List Addr),PG (X.z0 s H scope (compEnvC scope cl C X.env) fp) tg g)(ht: ∀(s:Shared)(H:Hp)(C:Addr)(cl:List (Str×Addr))(fp:List Addr),Uj (X.z0 s H scope (compEnvC scope cl C X.env) fp) ifs tt)
  (he: ∀(s:Shared)(H:Hp)(C:Addr)(cl:List (Str×Addr))(fp:List Addr),PE (X.z0 s H scope (compEnvC scope cl C X.env) fp) elt te)(hs: ∀x,foldedSetIterable iter X.env x=pure x)
  (h:Wf wi g tt te (own.map (·.2)) σ H Q)
  (hRR: ∀D C s' m H',Inv X pins σ H' s'→Q (.ref D) H'→s'.heap.Ns C m→uv X pins H' C→compPost (model X.prog X.w) X.A X.xe use Qf (.ref D) C (.ok .next) s'):
  wpAny (model X.prog X.w) X.A (comprehension (.ListComp elt [⟨tg,iter,ifs,0⟩] scope pos) scope X.env pos' (newList []) false (eval iter X.env) use) Qf X.xe s:=by
 have yn: ∀y∈scope.names,y.2=.free→∃c,X.env.cells.lookup y.1=some c:=fun y hy e=>by
  rcases ok.free y hy e with k|k
  ·exact I.ok.has _ (.inl k)
  ·exact I.ok.has _ (.inr k)
 refine wpAny_comprehension_free (use:=use) rfl hs (Dr yn) ok.kind (fun y hy e=>by rw[ok.uniq y hy,e])
  (eQ (hi pins s σ H _ I h) fun xv s1 hx=>eQ hx fun XJ s2 h2=>?_)
 obtain⟨it,fp,tn,J,H2,e,I2,T,Wc,f2,q⟩:=h2
 subst e
 refine jD (BB ?_) (by show 0≤sizeLine;decide)
 generalize hD:s2.heap.objs.size=D
 have QD:H2 D=none:=I2.eZ.fresh (pj hD)
 obtain⟨W,⟨m0,w0⟩,turn⟩:=q D QD
 generalize hs3:({s2 with heap:=s2.heap.push {cls:=.type "list",data:=.seq ([]:List Value).toArray}}:Shared)=s3
 have I3:Inv X pins σ (upd H2 D (.lst [])) s3:=by
  rw[←hs3]
  refine I2.laid (t':=s2.toks) (fun b o e=>aw _ e) (pj hD) ⟨bB _,[],0,.nil,?_⟩
  rw[←hD]
  exact aZ _ rfl
 have h3:s3.heap=s2.heap.push {cls:=.type "list",data:=.seq ([]:List Value).toArray}:=by rw[←hs3]
 have sz: ∀b∈fp,b<s2.heap.objs.size:=fun b hb=>by
  obtain⟨o,e,_⟩:=T.obj _ _ Wc b hb
  exact aS e
 have f3: ∀b∈fp,uv X pins (upd H2 D (.lst [])) b∧b<s3.heap.objs.size:=fun b hb=>by
  have eI:=sz b hb
  refine⟨⟨?_,(f2 b hb).2⟩,by rw[h3,cD];exact iN eI⟩
  rw[aE (by rw[←hD];exact br eI)]
  exact(f2 b hb).1
 have Wd:tn 0 s3.heap:=T.keep _ _ _ Wc fun b _ o e=>by rw[h3];exact aw _ e
 have I4:=BD I3 ok hN f3
 have pg:=hg s3 (upd H2 D (.lst [])) s3.heap.objs.size (cellsFrom (s3.heap.objs.size+1) scope.names (d9 X.env.cells scope.names [])) fp
 have pt:=ht s3 (upd H2 D (.lst [])) s3.heap.objs.size (cellsFrom (s3.heap.objs.size+1) scope.names (d9 X.env.cells scope.names [])) fp
 have pe:=he s3 (upd H2 D (.lst [])) s3.heap.objs.size (cellsFrom (s3.heap.objs.size+1) scope.names (d9 X.env.cells scope.names [])) fp
 show codeAny _ _ (.compStart (.ListComp elt [⟨tg,iter,ifs,0⟩] scope pos) 0 (.ref it) (.ref D) (compEnvC scope (cellsFrom (s3.heap.objs.size+1) scope.names (d9 X.env.cells scope.names [])) s3.heap.objs.size X.env)) (compPost (model X.prog X.w) X.A X.xe use Qf (.ref D) s3.heap.objs.size) {s3 with heap:=pushCells (s3.heap.push {cls:=.type "dict",data:=.dict #[]}) scope.names}
 have nfp: ∀b∈fp,(upd H2 D (.lst [])) b=none:=fun b hb=>(f3 b hb).1.1
 generalize Ul:compEnvC scope (cellsFrom (s3.heap.objs.size+1) scope.names (d9 X.env.cells scope.names [])) s3.heap.objs.size X.env=ce at I4 pg pt pe⊢
 have cL:ce.locals=s3.heap.objs.size:=by subst Ul;rfl
 generalize hH3:upd H2 D (.lst [])=H3 at I3 I4 pg pt pe w0 nfp f3
 generalize hs4:({s3 with heap:=pushCells (s3.heap.push {cls:=.type "dict",data:=.dict #[]}) scope.names}:Shared)=s4 at I4⊢
 have st4:tn 0 s4.heap:=T.keep _ _ _ Wd fun b _ o e=>by rw[←hs4];exact AK _ _ _ _ (aw _ e)
 have Dg: ∀{σ':St}{H':Hp}{s':Shared},Inv (X.z0 s3 H3 scope ce fp) [] σ' H' s'→(∀b∈fp,H' b=none)→∀b∈fp,uv (X.z0 s3 H3 scope ce fp) [] H' b:=fun{σ' H' s'} I' hn b hb=>
  ⟨hn b hb,(I'.ok.V6 b hb).1,I'.ok.IU b hb,.inl hb,fun x c e=>(I'.ok.V6 b hb).2 x c e,fun p hp=>absurd (show p∈([]:List (Addr×Obj))++[]from hp) (by simp)⟩
 have loop:codeAny (model X.prog X.w) X.A (.compLoop (.ListComp elt [⟨tg,iter,ifs,0⟩] scope pos) 0 (.ref it) (.ref D) ce) (compPost (model X.prog X.w) X.A X.xe use Qf (.ref D) s3.heap.objs.size) s4:=by
  refine Aa (fun n s'=>∃i H',Inv (X.z0 s3 H3 scope ce fp) [] (wipe σ (own.map (·.2))) H' s'∧tn i s'.heap∧(∀b∈fp,H' b=none)∧W i n H') ?_ m0 ⟨0,H3,I4,st4,nfp,w0⟩
  rintro n s5 ⟨i,H5,I5,Sa,n5,w5⟩
  rcases turn i n H5 w5 with⟨stop,qq⟩|⟨go,Nx,hNx,step⟩
  ·have td:=T.done (X.z0 s3 H3 scope ce fp) rfl rfl rfl hc i [] s5 _ H5 (fun _ _=>False) I5 (Dg I5 n5) Sa stop
   refine Gw td fun r s6⟨hr,I6⟩=>?_
   subst hr
   have I7:Inv X pins σ H5 s6:=I3.Tx (ch:=fp) I6.os I6.base I6.eZ I6.bare fun b hb=>⟨(f3 b hb).1.2.2.2.1,(f3 b hb).1.2.1,(f3 b hb).1.2.2.2.2.1,(f3 b hb).1.2.2.2.2.2⟩
   have nC:H5 s3.heap.objs.size=none:=by
    have z:H5 ce.locals=none:=I6.free
    rw[cL]at z
    exact z
   obtain⟨m,hn,_⟩:=I6.loc
   have hn:s6.heap.Ns ce.locals m:=hn
   rw[cL]at hn
   exact hRR D s3.heap.objs.size s6 m H5 I7 qq hn (I3.Gf (aq _) nC)
  ·have ti:=T.item (X.z0 s3 H3 scope ce fp) rfl rfl rfl hc i [] s5 _ H5 (fun _ _=>False) I5 (Dg I5 n5) Sa go
   refine Gw ti fun r s6⟨u,hr,h6⟩=>?_
   subst hr
   refine Gw h6 fun _ s7⟨x,H7,I7,r7,y7,Yi,n7⟩=>?_
   have I7':=I7.pinned (Dg I7 n7) (T.obj _ _ Yi)
   refine Gw (pg _ s7 _ H7 x u _ I7' r7 (step x H7 y7)) fun _ s8⟨σ8,H8,I8,hw8,q8⟩=>?_
   refine Gw (pt _ s8 σ8 H8 _ I8 q8) fun b s9⟨H9,I9,q9⟩=>?_
   have fin: ∀{s':Shared}{H':Hp},Inv (X.z0 s3 H3 scope ce fp) ([]++wt fp s7.heap) σ8 H' s'→Nx H'→∃m,m<n∧∃i H',Inv (X.z0 s3 H3 scope ce fp) [] (wipe σ (own.map (·.2))) H' s'∧tn i s'.heap∧(∀b∈fp,H' b=none)∧W i m H':=fun{s' H'} I' nx=>by
    obtain⟨m',hm,w'⟩:=hNx H' nx
    have Um: ∀b∈fp,∀o,s7.heap.get? b=some o→s'.heap.get? b=some o∧H' b=none:=fun b hb o e=>
     let z:=I'.pin (b,o) (dJ _ (dJ _ (qs hb e)))
     ⟨z.1,z.2.1⟩
    have hl:(wipe σ (own.map (·.2))).length=σ8.length:=by rw[←hw8,oW]
    refine⟨m',hm,i+1,H',(I'.rL (pins:=[])).weak hl (fun j v e=>?_),T.keep _ _ _ Yi fun b hb o e=>(Um b hb o e).1,fun b hb=>?_,w'⟩
    ·rw[←hw8]at e
     exact(tm e).1
    ·obtain⟨o,e,_⟩:=T.obj _ _ Yi b hb
     exact(Um b hb o e).2
   cases b with
   |false=>
    simp only[dW,fb]at q9⊢
    exact fin I9 q9
   |true=>
    simp only[fD]at q9⊢
    refine Gw (pe _ s9 σ8 H9 _ I9 q9) fun z s10⟨yv,Yj,I10,r10,acc,QE,Yk,nx⟩=>?_
    exact QC (X:=X.z0 s3 H3 scope ce fp) I10 QE Yk r10 fun s11 I11=>fin I11 nx
 exact codeAny_compStart_list loop (T.self X.A 0 _ _ _ st4 loop)
theorem je{elt tg iter:Expr}{ifs:List Expr}{scope:Scope}{own:List (Str×Nat)}{pos:Pos}{wi:TI}{g:TG}{tt:TT}{te:TE}(hc:X.calm=true)(hN:X.N.Nodup)(hi:PI X tg iter wi)(ok:BC X.N X.env.scope scope own)
  (hg: ∀(s:Shared)(H:Hp)(C:Addr)(cl:List (Str×Addr))(fp:List Addr),PG (X.z0 s H scope (compEnvC scope cl C X.env) fp) tg g)(ht: ∀(s:Shared)(H:Hp)(C:Addr)(cl:List (Str×Addr))(fp:List Addr),Uj (X.z0 s H scope (compEnvC scope cl C X.env) fp) ifs tt)
  (he: ∀(s:Shared)(H:Hp)(C:Addr)(cl:List (Str×Addr))(fp:List Addr),PE (X.z0 s H scope (compEnvC scope cl C X.env) fp) elt te)(hs: ∀x,foldedSetIterable iter X.env x=pure x:=by intro _;rfl):
  PE X (.ListComp elt [⟨tg,iter,ifs,0⟩] scope pos) (Wf wi g tt te (own.map (·.2))):=by
 intro pins s σ H Q I h
 rw[eval_ListComp]
 refine EK hc hN I hi ok hg ht he hs h fun D C s' m H' I' q hn f=>⟨m,hn,fun Ox sb=>?_⟩
 obtain⟨f0,f1,f2,f3,f4,f5⟩:=f
 exact⟨.ref D,H',I'.turned (t':=s'.toks) (fun b o hb e=>(sb.2 b hb).trans e) f0 f1 f3 f4 f5,rfl,q⟩
theorem gf{i:Nat}{y:Str}{py:Pos}{elt tg iter:Expr}{ifs:List Expr}{scope:Scope}{own:List (Str×Nat)}{pos Uo:Pos}{wi:TI}{g:TG}{tt:TT}{te:TE}(hc:X.calm=true)(hN:X.N.Nodup)(hy:X.N[i]? =some y)(Si:X.env.scope.names.lookup y=some .local)
  (hsw:swapsWith (.ListComp elt [⟨tg,iter,ifs,0⟩] scope pos) (some (.Name y py)) Uo.line X.env=pure true)(hi:PI X tg iter wi)(ok:BC X.N X.env.scope scope own)
  (hg: ∀(s:Shared)(H:Hp)(C:Addr)(cl:List (Str×Addr))(fp:List Addr),PG (X.z0 s H scope (compEnvC scope cl C X.env) fp) tg g)(ht: ∀(s:Shared)(H:Hp)(C:Addr)(cl:List (Str×Addr))(fp:List Addr),Uj (X.z0 s H scope (compEnvC scope cl C X.env) fp) ifs tt)
  (he: ∀(s:Shared)(H:Hp)(C:Addr)(cl:List (Str×Addr))(fp:List Addr),PE (X.z0 s H scope (compEnvC scope cl C X.env) fp) elt te)(hs: ∀x,foldedSetIterable iter X.env x=pure x:=by intro _;rfl):
  PS X (.Assign [.Name y py] (.ListComp elt [⟨tg,iter,ifs,0⟩] scope pos) Uo) (Qj (Wf wi g tt te (own.map (·.2))) (gM i)):=by
 intro pins s σ H D I h
 rw[exec_Assign_Name_used _ _ _ _ hsw]
 refine wpAny_bind (wpAny_standAt (wpAny_bind ?_))
 show wpAny _ X.A (do let _←comprehension (.ListComp elt [⟨tg,iter,ifs,0⟩] scope pos) scope X.env (firstIterPos [⟨tg,iter,ifs,0⟩] pos) (newList []) false (eval iter X.env) (some (assign (.Name y py) X.env))) _ _ s
 have h:Wf wi g tt te (own.map (·.2)) σ H (fun x H1=>gM i x σ H1 D.nx):=h
 refine wpAny_bind (eQ (EK (Qf:=fun _ s'=>SP X pins D .next s') hc hN I hi ok hg ht he hs h fun L C s' m H' I' q hn f=>?_) fun _ s' hq=>aF (aF hq))
 show wpAny _ _ (assign (.Name y py) X.env (.ref L)) _ _ _
 refine wpAny_assign_Name (ym (v:=V.ref L) I' hN hy (.inl Si) rfl (fun s2 I2⟨a,sb,ha⟩=>?_) (.inr Si))
 obtain⟨f0,f1,f2,f3,f4,f5⟩:=f
 have haC:C≠a:=by
  rcases ha with z|z
  ·rw[z];exact f1
  ·exact fun e=>f4 y a z e.symm
 refine⟨m,hn.sameBut sb haC,fun h3 sb3=>?_⟩
 exact⟨_,H',I2.turned (t':=s2.toks) (fun b o hb e=>(sb3.2 b hb).trans e) f0 f1 f3 f4 f5,q⟩
end
theorem MH{K:W.Frag}{a:Addr}{xs:List V}{g:TG}{tt:TT}{te:TE}{vs:List Nat}{σ:St}{H1:Hp}{D:Addr}{Qd:Hp→Prop}(Pv:Nat→Hp→Prop)(h0:Pv 0 (upd H1 D (.lst [])))(hl: ∀i H,i≤xs.length→Pv i H→cy K H a xs)
  (hs: ∀i x H,xs[i]? =some x→Pv i H→g x (wipe σ vs) H fun σ2 H2=>wipe σ2 vs=wipe σ vs∧tt σ2 H2 fun b H3=>
   if b=true then te σ2 H3 fun y H4=>∃acc,H4 D=some (.lst acc)∧acc.length<sizeLine∧Pv (i+1) (upd H4 D (.lst (acc++[y])))else Pv (i+1) H3)(hd: ∀H,Pv xs.length H→Qd H):
  ∃W:Nat→Nat→Hp→Prop,(∃m,W 0 m (upd H1 D (.lst [])))∧∀i m H,W i m H→
   ((Lv K a).stop i H∧Qd H)∨((Lv K a).go i H∧∃Nx:Hp→Prop,(∀H',Nx H'→∃m',m'<m∧W (i+1) m' H')∧∀x H',(Lv K a).uu i H x H'→g x (wipe σ vs) H' fun σ2 H2=>wipe σ2 vs=wipe σ vs∧tt σ2 H2 fun b H3=>
    if b=true then te σ2 H3 fun y H4=>∃acc,H4 D=some (.lst acc)∧acc.length<sizeLine∧Nx (upd H4 D (.lst (acc++[y])))else Nx H3):=by
 refine⟨fun i m H=>m=xs.length-i∧i≤xs.length∧Pv i H,⟨xs.length,by simp,bB _,h0⟩,?_⟩
 rintro i m H ⟨rfl,hi,p⟩
 have q:=hl i H hi p
 by_cases eI:i<xs.length
 ·refine .inr ⟨⟨xs,xs[i],q,by simp[eI]⟩,Pv (i+1),fun H' p'=>⟨xs.length-(i+1),by omega,rfl,eI,p'⟩,fun x H' y=>?_⟩
  obtain⟨e,y⟩:=y
  subst e
  exact hs i x _ (y xs q) p
 ·have e:i=xs.length:=by omega
  subst e
  exact .inl ⟨⟨xs,q,aq _⟩,hd H p⟩
def ij(N:List Str)(sc scope:Scope)(own:List (Str×Nat)):Bool:=
 (match scope.kind with|.function=>true|_=>false)&&(scope.names.all fun y=>decide (scope.names.lookup y.1=some y.2))&&(own.all fun p=>decide (N[p.2]? =some p.1))&&
  (scope.names.all fun y=>match y.2 with
   |.free=>(match sc.names.lookup y.1 with|some .cell=>true|some .free=>true|_=>false)
   |.local=>decide (y.1∈own.map (·.1))||decide (y.1∉N)
   |.cell=>decide (y.1∈own.map (·.1))||decide (y.1∉N)
   |_=>true)
theorem cB{N:List Str}{sc scope:Scope}{own:List (Str×Nat)}(h:ij N sc scope own=true):BC N sc scope own:=by
 unfold ij at h
 simp only[aN,aW,aG]at h
 obtain⟨⟨⟨h1,h2⟩,h3⟩,h4⟩:=h
 refine⟨?_,h2,h3,fun y hy e=>?_,fun y hy e=>?_⟩
 ·split at h1
  ·assumption
  ·cases h1
 ·have q:=h4 y hy
  simp only[e]at q
  split at q<;>first|exact .inl (by assumption)|exact .inr (by assumption)|cases q
 ·have q:=h4 y hy
  rcases e with e|e<;>(simp only[e,eY,aG]at q;exact q)
end L2
namespace L2
open PySem PySem.Spec PyProof.Rows
theorem wD:bootBuiltins "reversed"=some (.type "reversed"):=by decide +kernel
section
variable{X:Cx}{pins:List (Addr×Obj)}{σ:St}{H:Hp}{s:Shared}{h':Heap}
theorem Inv.MI{t':Nat}{ch:List Addr}(I:Inv X pins σ H s)(k: ∀b o,b∉ch→s.heap.get? b=some o→h'.get? b=some o)(hf: ∀b∈ch,uv X pins H b):Inv X pins σ H {s with heap:=h',toks:=t'}:=by
 have Oj: ∀b u,H b=some u→b∉ch:=fun b u e z=>by
  have q:=(hf b z).1
  rw[q]at e;cases e
 refine I.step (g':=s.gens) (d':=s.drawn) (ch:=ch) (fun b hb=>⟨(hf b hb).2.2.2.1,(hf b hb).2.1,(hf b hb).2.2.2.2.1,(hf b hb).2.2.2.2.2⟩) (fun b o _ _ hc e _=>k b o hc e) (fun b o _ _ hc e _=>⟨o.slots,k b o hc e⟩)
  (fun _ _ _ _ n=>n) (fun b o hc e=>⟨o,k b o hc e⟩) (fun _ _ e=>e) (fun _ _ _ e=>e) (fun b ps e=>⟨#[],by rw[e];simp⟩) (fun m hm=>?_) (fun b u e=>?_) I.bare
 ·obtain⟨o,es,ep,ho,r⟩:=hm
  exact⟨o,es,ep,k _ o (fun z=>(hf _ z).2.1 rfl) ho,r⟩
 ·refine(I.eZ b u e).C8 (fun c v hc q=>k c v ?_ q) (fun _ q=>q) fun _ _ q=>q
  rcases hc with z|z
  ·rw[z];exact Oj b u e
  ·exact Oj c _ z
theorem Inv.yx{t':Nat}{ch:List Addr}{T:Addr}{ob:HO}(I:Inv X pins σ H s)(k: ∀b o,b∉ch→s.heap.get? b=some o→h'.get? b=some o)(hf: ∀b∈ch,uv X pins H b)(hT:s.heap.objs.size≤T)
  (new:iD X.prog X.w (upd H T ob) h' T ob):Inv X pins σ (upd H T ob) {s with heap:=h',toks:=t'}:=by
 have hn:H T=none:=I.eZ.fresh hT
 have Oj: ∀b u,H b=some u→b∉ch:=fun b u e z=>by
  have q:=(hf b z).1
  rw[q]at e;cases e
 refine I.step (g':=s.gens) (d':=s.drawn) (ch:=ch) (fun b hb=>⟨(hf b hb).2.2.2.1,(hf b hb).2.1,(hf b hb).2.2.2.2.1,(hf b hb).2.2.2.2.2⟩) (fun b o _ _ hc e _=>k b o hc e) (fun b o _ _ hc e _=>⟨o.slots,k b o hc e⟩)
  (fun b o _ e n=>?_) (fun b o hc e=>⟨o,k b o hc e⟩) (fun b xs e=>?_) (fun b o u e=>?_) (fun b ps e=>⟨#[],?_⟩) (fun m hm=>?_) (fun b u e=>?_) I.bare
 ·rw[aE (br (bJ (aS e) hT))];exact n
 ·rw[aE (aK e hn)];exact e
 ·rw[aE (aK e hn)];exact e
 ·rw[aE (aK e hn),e];simp
 ·obtain⟨o,es,ep,ho,r⟩:=hm
  exact⟨o,es,ep,k _ o (fun z=>(hf _ z).2.1 rfl) ho,r⟩
 ·by_cases hb:b=T
  ·subst hb
   rw[au]at e
   cases e
   exact new
  ·rw[aE hb]at e
   refine(I.eZ b u e).C8 (fun c v hc q=>k c v ?_ q) (fun c q=>by rw[aE (aK q hn)];exact q) fun c xs q=>by rw[aE (aK q hn)];exact q
   rcases hc with z|z
   ·rw[z];exact Oj b u e
   ·exact Oj c _ z
end
section
variable{X:Cx}
theorem QF{tg:Expr}{pins:List (Addr×Obj)}{σ:St}{H:Hp}{s:Shared}{R:It→Hp→Prop}{J:It}{tn:Nat→Heap→Prop}{tk:Nat}(I:Inv X pins σ H s)(o:Obj)
  (T:Turn X.prog X.w X.K tg J [s.heap.objs.size] s.heap.objs.size tn)(st:tn 0 (s.heap.push o))(q:R J H):XI X pins σ tg R (.ref s.heap.objs.size) {s with heap:=s.heap.push o,toks:=tk}:=by
 refine⟨s.heap.objs.size,[s.heap.objs.size],tn,J,H,rfl,I.kept fun b ob e=>aw _ e,T,st,fun b hb=>?_,q⟩
 have e:b=s.heap.objs.size:=by simpa using hb
 subst e
 exact I.Gf (aq _) (I.eZ.fresh (aq _))
end
def Yl(K:W.Frag)(a:Addr)(n:Nat):It:=
 ⟨fun i H=>i<n∧∃(xs:List V)(x:V),cy K H a xs∧xs[n-1-i]? =some x,fun i H x H'=>H'=H∧∀xs,cy K H a xs→xs[n-1-i]? =some x,fun i _=>n≤i⟩
theorem JC{P:Program}{w:World}{K:W.Frag}{tg:Expr}(a it:Addr)(n:Nat):Turn P w K tg (Yl K a n) [it] it (fun i h=>i≤n∧h.IsRevIter it a ((n:Int)-1-(i:Nat))) where
 mem:=by simp
 obj:=fun i h st b hb=>by
  have e:b=it:=by simpa using hb
  subst e
  obtain⟨_,o,e,c,d⟩:=st
  exact⟨o,e,fun v z=>by rw[d]at z;cases z⟩
 keep:=fun i h h' st k=>⟨st.1,st.2.at fun o e=>k it (by simp) o e⟩
 item:=by
  intro X hP hw hK hc i pins s σ H E I hf st hg
  subst hP hw hK
  obtain⟨tW,xs,x,hq,hx⟩:=hg
  obtain⟨cw,rv,p,hz⟩:=I.list hq
  obtain⟨u,hu,ru⟩:=rv.get hx
  obtain⟨f0,f1,f2,f3,f4,f5⟩:=hf it (by simp)
  obtain⟨_,hit⟩:=st
  have e1:(n:Int)-1-((i:Nat):Int)=((n-1-i:Nat):Int):=by omega
  rw[e1]at hit
  refine wpAny_pyNext_rev_item hit p.isList (x:=u) (by simpa using hu) fun h' zN sb=>?_
  have e2:((n-1-i:Nat):Int)-1=(n:Int)-1-((i+1:Nat):Int):=by omega
  rw[e2]at zN
  have I1:Inv X pins σ H {s with heap:=h'}:=I.turned (t':=s.toks) (fun b o hb e=>(sb.2 b hb).trans e) f0 f1 f3 f4 f5
  obtain⟨o,e,c,d⟩:=id zN
  exact⟨u,rfl,Jc (s:={s with heap:=h'}) e c d (by decide) ⟨x,H,I1,ru,⟨rfl,fun ys hy=>by rw[I.oR hy hq];exact hx⟩,⟨tW,zN⟩,fun b hb=>(hf b hb).1⟩⟩
 done:=by
  intro X hP hw hK hc i pins s σ H E I hf st hg
  subst hP hw hK
  obtain⟨f0,f1,f2,f3,f4,f5⟩:=hf it (by simp)
  obtain⟨tW,hit⟩:=st
  have Ed:n≤i:=hg
  have e1:(n:Int)-1-((i:Nat):Int)= -1:=by omega
  rw[e1]at hit
  exact wpAny_pyNext_rev_end (I.ok.hd hc) hit fun h' eb=>⟨rfl,I.turned (t':=s.toks) (fun b o hb e=>eb b o hb e) f0 f1 f3 f4 f5⟩
 self:=fun A i s Q E st h=>wpAny_pyIter_revIter st.2 h
def Ym(K:W.Frag)(ta:TA):TI:=fun σ H R=>ta σ H fun vs H1=>∃(a:Addr)(xs:List V),vs=[.ref a]∧cy K H1 a xs∧R (Yl K a xs.length) H1
section
variable{X:Cx}{tg:Expr}
theorem uh{e:Expr}{ta:TA}{p pos:Pos}(hg:Gl X "reversed")(hm:X.mg "reversed"=none)(ha:PA X [e] ta)(hs:starEach [e] X.env=[(false,eval e X.env)]:=by rfl):PI X tg (.Call (.Name "reversed" p) [e] [] pos) (Ym X.K ta):=by
 intro pins s σ H R I h
 refine Call_ (qp I hg hm wD (d7 (eQ (ha pos pins s σ H _ I h) fun us s1⟨vs,H1,I1,r1,q1⟩=>?_) hs rfl))
 obtain⟨a,xs,e,hq,q⟩:=q1
 subst e
 cases r1 with
 |cons r rr=>
  cases rr
  cases r
  obtain⟨cw,rv,p',hz⟩:=I1.list hq
  have hl:=rv.length
  have e1:((cw.toArray.size:Nat):Int)-1=(xs.length:Int)-1-((0:Nat):Int):=by simp only[aV];omega
  refine call_reversed_list p'.isList (wpAny_pyIter_revIter (l:=a) (i:=((cw.toArray.size:Nat):Int)-1) ⟨_,aZ _ rfl,rfl,rfl⟩ ?_)
  refine QF (tk:=s1.toks) I1 _ (JC a _ xs.length) ⟨bB _,?_⟩ q
  rw[←e1]
  exact⟨_,aZ _ rfl,rfl,rfl⟩
end
def Wg(K:W.Frag)(a:Addr):It:=
 ⟨fun i H=>∃(xs:List V)(x:V),cy K H a xs∧xs[i]? =some x,fun i H v H'=>∃T x,v=.ref T∧H T=none∧H'=upd H T (.tup [.int (i:Nat),x])∧∀xs,cy K H a xs→xs[i]? =some x,fun i H=>∃xs:List V,cy K H a xs∧xs.length≤i⟩
theorem Gx{P:Program}{w:World}{K:W.Frag}{elts:List Expr}{kk:Nat}{ur:Pos}(a e it:Addr):
  Turn P w K (.Tuple elts kk ur) (Wg K a) [e,it] e (fun i h=>(∃old,IsEnum h e it ((i:Nat):Int) old)∧h.IsListIter it a i∧e≠it) where
 mem:=by simp
 obj:=fun i h st b hb=>by
  obtain⟨⟨old,he⟩,⟨o,ho,hc,hd⟩,_⟩:=st
  have e':b=e∨b=it:=by simpa using hb
  rcases e' with z|z
  ·rw[z];exact⟨_,he,fun v q=>nomatch q⟩
  ·rw[z];exact⟨o,ho,fun v q=>by rw[hd]at q;cases q⟩
 keep:=fun i h h' st k=>let ⟨⟨old,he⟩,hi,df⟩:=st;⟨⟨old,k e (by simp) _ he⟩,hi.at fun o q=>k it (by simp) o q,df⟩
 item:=by
  intro X hP hw hK hc i pins s σ H E I hf st hg
  subst hP hw hK
  obtain⟨⟨old,he⟩,hit,df⟩:=st
  obtain⟨xs,x,hq,hx⟩:=hg
  obtain⟨cw,rv,p,hz⟩:=I.list hq
  obtain⟨u,hu,ru⟩:=rv.get hx
  have MJ:e<s.heap.objs.size:=aS he
  have xN:it<s.heap.objs.size:=by obtain⟨_,q,_⟩:=hit;exact aS q
  refine wpAny_pyNext_enum_item he hit p.isList (x:=u) (by simpa using hu) df fun h' ho Yn hT hsz hk=>?_
  refine⟨_,rfl,wpAny_letOwnedTupleGo_enum (s:={s with heap:=h',toks:=s.toks+1}) ho fun Ox C2 sb=>?_⟩
  have Tn:Ox.get? s.heap.objs.size=some {cls:=.type "tuple",data:=.seq #[.int i s.toks,u]}:=(sb.2 _ (fg MJ)).trans hT
  have new:iD X.prog X.w (upd H s.heap.objs.size (.tup [.int (i:Nat),x])) Ox s.heap.objs.size (.tup [.int (i:Nat),x]):=
   ⟨by show 2≤sizeLine;decide,[.int i s.toks,u],.cons ⟨_,rfl⟩ (.cons ru .nil),⟨_,Tn,rfl,_,rfl⟩⟩
  have I1:Inv X pins σ (upd H s.heap.objs.size (.tup [.int (i:Nat),x])) {s with heap:=Ox,toks:=s.toks+1}:=
   I.yx (ch:=[e,it]) (fun b ob hb q=>(sb.2 b (fun z=>hb (by simp[z]))).trans (hk b ob (fun z=>hb (by simp[z])) (fun z=>hb (by simp[z])) q)) hf (aq _) new
  refine⟨.ref s.heap.objs.size,_,I1,rfl,⟨_,x,rfl,I.eZ.fresh (aq _),rfl,fun ys hy=>by rw[I.oR hy hq];exact hx⟩,⟨⟨u,?_⟩,Yn.at fun o q=>(sb.2 it (iM df)).trans q,df⟩,fun b hb=>?_⟩
  ·have e1:((i+1:Nat):Int)=(i:Int)+1:=by omega
   rw[e1];exact C2
  ·have ke:b<s.heap.objs.size:=by
    have e':b=e∨b=it:=by simpa using hb
    rcases e' with z|z
    ·rw[z];exact MJ
    ·rw[z];exact xN
   rw[aE (br ke)]
   exact(hf b hb).1
 done:=by
  intro X hP hw hK hc i pins s σ H E I hf st hg
  subst hP hw hK
  obtain⟨⟨old,he⟩,hit,df⟩:=st
  obtain⟨xs,hq,hx⟩:=hg
  obtain⟨cw,rv,p,hz⟩:=I.list hq
  obtain⟨f0,f1,f2,f3,f4,f5⟩:=hf it (by simp)
  have hl:=rv.length
  exact wpAny_pyNext_enum_end (I.ok.hd hc) he hit p.isList (by simp;omega) fun h' eb=>⟨rfl,I.turned (t':=s.toks) (fun b o hb q=>eb b o hb q) f0 f1 f3 f4 f5⟩
 self:=fun A i s Q E st h=>let ⟨⟨_,he⟩,_⟩:=st;wpAny_pyIter_enum he h
def Uq(K:W.Frag)(ta:TA):TI:=fun σ H R=>ta σ H fun vs H1=>∃a xs,vs=[.ref a]∧cy K H1 a xs∧R (Wg K a) H1
theorem rS{X:Cx}{e:Expr}{ta:TA}{p pos ur:Pos}{elts:List Expr}{kk:Nat}(hg:Gl X "enumerate")(hm:X.mg "enumerate"=none)(ha:PA X [e] ta)(hs:starEach [e] X.env=[(false,eval e X.env)]:=by rfl):
  PI X (.Tuple elts kk ur) (.Call (.Name "enumerate" p) [e] [] pos) (Uq X.K ta):=by
 intro pins s σ H R I h
 refine Call_ (qp I hg hm boot_enumerate (d7 (eQ (ha pos pins s σ H _ I h) fun us s1⟨vs,H1,I1,r1,q1⟩=>?_) hs rfl))
 obtain⟨a,xs,ex,hq,q⟩:=q1
 subst ex
 cases r1 with
 |cons r rr=>
  cases rr
  cases r
  obtain⟨cw,rv,p',hz⟩:=I1.list hq
  refine call_enumerate_list p'.isList fun h' he hit hsz hk=>wpAny_pyIter_enum he ?_
  have I2:Inv X pins σ H1 {s1 with heap:=h'}:=I1.kept (t':=s1.toks) hk
  refine⟨s1.heap.objs.size+1,[s1.heap.objs.size+1,s1.heap.objs.size],_,_,H1,rfl,I2,Gx a (s1.heap.objs.size+1) s1.heap.objs.size,⟨⟨.none,he⟩,hit,Nat.succ_ne_self _⟩,fun b hb=>?_,q⟩
  have e':b=s1.heap.objs.size+1∨b=s1.heap.objs.size:=by simpa using hb
  have hle:s1.heap.objs.size≤b:=by
   rcases e' with z|z
   ·rw[z];exact mI _ _
   ·rw[z];exact aq _
  exact I1.Gf hle (I1.eZ.fresh hle)
theorem Gy:bootBuiltins "zip"=some (.type "zip"):=by decide +kernel
def Wh(K:W.Frag)(a b:Addr):It:=
 ⟨fun i H=>∃(xs ys:List V)(x y:V),cy K H a xs∧cy K H b ys∧xs[i]? =some x∧ys[i]? =some y,
  fun i H v H'=>∃T x y,v=.ref T∧H T=none∧H'=upd H T (.tup [x,y])∧(∀xs,cy K H a xs→xs[i]? =some x)∧∀ys,cy K H b ys→ys[i]? =some y,
  fun i H=>∃xs ys:List V,cy K H a xs∧cy K H b ys∧(xs.length≤i∨ys.length≤i)⟩
theorem JD{P:Program}{w:World}{K:W.Frag}{elts:List Expr}{kk:Nat}{ur:Pos}{a b z TI TO i1 i2:Addr}(D:ZipApart z TI TO i1 i2 a b):
  Turn P w K (.Tuple elts kk ur) (Wh K a b) [z,TI,TO,i1,i2] z (fun i h=>IsZip h z TI TO .none∧IsPair h TI (.ref i1) (.ref i2)∧(∃x y,IsPair h TO x y)∧h.IsListIter i1 a i∧h.IsListIter i2 b i) where
 mem:=by simp
 obj:=fun i h st c hc=>by
  obtain⟨hz,Ds,⟨x,y,Lz⟩,⟨o1,e1,_,d1⟩,⟨o2,e2,_,d2⟩⟩:=st
  have e':c=z∨c=TI∨c=TO∨c=i1∨c=i2:=by simpa using hc
  rcases e' with q|q|q|q|q
  ·rw[q];exact⟨_,hz,fun v q=>nomatch q⟩
  ·rw[q];exact⟨_,Ds,fun v q=>nomatch q⟩
  ·rw[q];exact⟨_,Lz,fun v q=>nomatch q⟩
  ·rw[q];exact⟨o1,e1,fun v q=>by rw[d1]at q;cases q⟩
  ·rw[q];exact⟨o2,e2,fun v q=>by rw[d2]at q;cases q⟩
 keep:=fun i h h' st k=>by
  obtain⟨hz,Ds,⟨x,y,Lz⟩,h1,h2⟩:=st
  exact⟨k z (by simp) _ hz,k TI (by simp) _ Ds,⟨x,y,k TO (by simp) _ Lz⟩,h1.at fun o q=>k i1 (by simp) o q,h2.at fun o q=>k i2 (by simp) o q⟩
 item:=by
  intro X hP hw hK hc i pins s σ H E I hf st hg
  subst hP hw hK
  obtain⟨hz,Ds,⟨x0,y0,Lz⟩,h1,h2⟩:=st
  obtain⟨xs,ys,x,y,Sj,Sk,hx,hy⟩:=hg
  obtain⟨cw,rv,p,_⟩:=I.list Sj
  obtain⟨sZ,Sl,p2,_⟩:=I.list Sk
  obtain⟨u,hu,ru⟩:=rv.get hx
  obtain⟨u2,Yb,Yc⟩:=Sl.get hy
  have hzl:z<s.heap.objs.size:=aS hz
  refine wpAny_pyNext_zip_item D hz Ds Lz h1 h2 p.isList p2.isList (x:=u) (y:=u2) (by simpa using hu) (by simpa using Yb) fun h' z' TO' Hw QG hT hsz hk=>?_
  refine⟨_,rfl,wpAny_letOwnedTupleGo_zip (s:={s with heap:=h'}) z' fun Ox z'' sb=>?_⟩
  have Tn:Ox.get? s.heap.objs.size=some {cls:=.type "tuple",data:=.seq #[u,u2]}:=(sb.2 _ (fg hzl)).trans hT
  have new:iD X.prog X.w (upd H s.heap.objs.size (.tup [x,y])) Ox s.heap.objs.size (.tup [x,y]):=
   ⟨by show 2≤sizeLine;decide,[u,u2],.cons ru (.cons Yc .nil),⟨_,Tn,rfl,_,rfl⟩⟩
  have I1:Inv X pins σ (upd H s.heap.objs.size (.tup [x,y])) {s with heap:=Ox}:=
   I.yx (t':=s.toks) (ch:=[z,TI,TO,i1,i2]) (fun c o hb q=>(sb.2 c (fun q'=>hb (by simp[q']))).trans (hk c o (fun q'=>hb (by simp[q'])) (fun q'=>hb (by simp[q'])) (fun q'=>hb (by simp[q'])) (fun q'=>hb (by simp[q'])) q)) hf (aq _) new
  refine⟨.ref s.heap.objs.size,_,I1,rfl,⟨_,x,y,rfl,I.eZ.fresh (aq _),rfl,fun l hl=>by rw[I.oR hl Sj];exact hx,fun l hl=>by rw[I.oR hl Sk];exact hy⟩,⟨z'',?_,⟨u,u2,?_⟩,?_,?_⟩,fun c Wi=>?_⟩
  ·exact(sb.2 _ D.TIz).trans (hk _ _ D.TIz D.TITO D.TIi1 D.TIi2 Ds)
  ·exact(sb.2 _ D.TOz).trans TO'
  ·exact Hw.at fun o q=>(sb.2 _ D.i1z).trans q
  ·exact QG.at fun o q=>(sb.2 _ D.i2z).trans q
  ·have eI:c<s.heap.objs.size:=by
    have e':c=z∨c=TI∨c=TO∨c=i1∨c=i2:=by simpa using Wi
    rcases e' with q|q|q|q|q
    ·rw[q];exact hzl
    ·rw[q];exact aS Ds
    ·rw[q];exact aS Lz
    ·rw[q];obtain⟨_,e1,_⟩:=h1;exact aS e1
    ·rw[q];obtain⟨_,e2,_⟩:=h2;exact aS e2
   rw[aE (br eI)]
   exact(hf c Wi).1
 done:=by
  intro X hP hw hK hc i pins s σ H E I hf st hg
  subst hP hw hK
  obtain⟨hz,Ds,⟨x0,y0,Lz⟩,h1,h2⟩:=st
  obtain⟨xs,ys,Sj,Sk,Yo⟩:=hg
  obtain⟨cw,rv,p,_⟩:=I.list Sj
  obtain⟨sZ,Sl,p2,_⟩:=I.list Sk
  have l1:=rv.length
  have l2:=Sl.length
  have he:cw.toArray[i]? =none∨sZ.toArray[i]? =none:=by
   rcases Yo with q|q
   ·exact .inl (by simp;omega)
   ·exact .inr (by simp;omega)
  exact wpAny_pyNext_zip_end (I.ok.hd hc) D hz Ds Lz h1 h2 p.isList p2.isList he fun h' hk=>⟨rfl,I.MI (t':=s.toks) (ch:=[z,TI,TO,i1,i2]) (fun c o hb q=>
   hk c o (fun q'=>hb (by simp[q'])) (fun q'=>hb (by simp[q'])) (fun q'=>hb (by simp[q'])) (fun q'=>hb (by simp[q'])) q) hf⟩
 self:=fun A i s Q E st h=>wpAny_pyIter_zip st.1 h
def Yp(K:W.Frag)(ta:TA):TI:=fun σ H R=>ta σ H fun vs H1=>∃a b xs ys,vs=[.ref a,.ref b]∧cy K H1 a xs∧cy K H1 b ys∧R (Wh K a b) H1
theorem wF{X:Cx}{e e2:Expr}{ta:TA}{p pos ur:Pos}{elts:List Expr}{kk:Nat}(hg:Gl X "zip")(hm:X.mg "zip"=none)(ha:PA X [e,e2] ta)
  (hs:starEach [e,e2] X.env=(false,eval e X.env)::starEach [e2] X.env:=by rfl)(n9:(backTo pos (starEach [e2] X.env)).any (·.1)=false:=by rfl):
  PI X (.Tuple elts kk ur) (.Call (.Name "zip" p) [e,e2] [] pos) (Yp X.K ta):=by
 intro pins s σ H R I h
 refine Call_ (qp I hg hm Gy (d7 (eQ (ha pos pins s σ H _ I h) fun us s1⟨vs,H1,I1,r1,q1⟩=>?_) hs n9))
 obtain⟨a,b,xs,ys,ex,Sj,Sk,q⟩:=q1
 subst ex
 cases r1 with
 |cons r rr=>
  cases rr with
  |cons r' rr=>
   cases rr
   cases r
   cases r'
   obtain⟨cw,rv,p1,_⟩:=I1.list Sj
   obtain⟨sZ,Sl,p2,_⟩:=I1.list Sk
   have la:a<s1.heap.objs.size:=p1.lt
   have lb:b<s1.heap.objs.size:=p2.lt
   refine call_zip_2 p1.isList p2.isList fun h' hz Ds Lz h1 h2 hsz hk=>wpAny_pyIter_zip hz ?_
   have I2:Inv X pins σ H1 {s1 with heap:=h'}:=I1.kept (t':=s1.toks) hk
   refine⟨s1.heap.objs.size+4,[s1.heap.objs.size+4,s1.heap.objs.size+2,s1.heap.objs.size+3,s1.heap.objs.size,s1.heap.objs.size+1],_,_,H1,rfl,I2,JD (W.ktu_apart s1.heap.objs.size a b la lb),⟨hz,Ds,⟨_,_,Lz⟩,h1,h2⟩,fun c Wi=>?_,q⟩
   have e':c=s1.heap.objs.size+4∨c=s1.heap.objs.size+2∨c=s1.heap.objs.size+3∨c=s1.heap.objs.size∨c=s1.heap.objs.size+1:=by simpa using Wi
   have hle:s1.heap.objs.size≤c:=by
    rcases e' with z|z|z|z|z
    ·rw[z];exact mI _ _
    ·rw[z];exact mI _ _
    ·rw[z];exact mI _ _
    ·rw[z];exact aq _
    ·rw[z];exact mI _ _
   exact I1.Gf hle (I1.eZ.fresh hle)
end L2
namespace L2
open PySem PySem.Spec PyProof.Rows
def inClass(s:Stmt)(j:Nat):Stmt:=match s with
 |.ClassDef _ _ _ body _ _ _ _ _ _ _=>body.getD j (.Pass ⟨0,0,0,0⟩)
 |_=>.Pass ⟨0,0,0,0⟩
def kl(s:Stmt):Arguments:=match s with
 |.FunctionDef _ a _ _ _ _ _ _ _ _=>a
 |_=>{posonlyargs:=[],args:=[],vararg:=none,kwonlyargs:=[],kw_defaults:=[],kwarg:=none,defaults:=[]}
def jz(s:Stmt):List Stmt:=match s with
 |.FunctionDef _ _ b _ _ _ _ _ _ _=>b
 |_=>[]
def aB(s:Stmt):Scope:=match s with
 |.FunctionDef _ _ _ _ _ _ sc _ _ _=>sc
 |_=>{kind:=.function,names:=[],isGenerator:=false,isCoroutine:=false}
abbrev fT:Hy:=fun _ _ _ _ _ _=>False
abbrev E0:XK:=fun _ _ _=>False
theorem yy{X:Cx}:Passes fT X E0:=fun _ _ _ _ _ _ _ h=>h.elim
structure f6(K:W.Frag)(x qual:Str)(st:Stmt)(f:Addr)(fd:FuncData):Prop where
 ex: ∃(oc:Value)(od:Option Addr)(kV doc pm:Value)(an:Option Addr)(eM ct:Value)(Ov:Array (Option Value)),
  fd=W.fnOf x qual (kl st) (jz st) (aB st) .none kV doc pm an eM ct∧K.lookup f=some ⟨oc,od,.func fd,Ov⟩∧W.codeIn K eM qual=true
 kp:W.keepIn K (.ref f)=true
section
variable{P:Program}{w:World}{K:W.Frag}{mg:Str→Option Value}{base:Heap}
theorem f6.ok{x qual:Str}{st:Stmt}{f:Addr}{fd:FuncData}{N ps:List Str}{k:Nat}{sp:Sp}(F:f6 K x qual st f fd)(S:bf N ps (aB st))(len: ∀vs H Q E,sp vs H Q E→vs.length=ps.length)
  (Jm: ∀(eM:Value)(A:Around)(outer:List Env)(s:Shared)(H:Hp)(vs:List V)(Q:VK)(E:XK),dY k (A.deeper (envOfC qual (aB st) s.heap.objs.size f eM))→sp vs H Q E→
   ∃t,Ge (Gq fT P w K mg base N qual (aB st) f eM A outer s H E).V9 (jz st) t∧t {nx:=fun _ H'=>Q .fC H',rt:=Q} (start N vs) H):cF P w K mg base fT (k+1) f fd ps sp:=by
 obtain⟨oc,od,kV,doc,pm,an,eM,ct,Ov,rfl,lk,tV⟩:=F.ex
 refine Uc lk tV S len fun A outer s H vs Q E hr Lw=>?_
 obtain⟨t,h,q⟩:=Jm eM A outer s H vs Q E hr Lw
 exact⟨t,h.V9,q⟩
theorem f6.binds{x qual:Str}{st:Stmt}{f:Addr}{fd:FuncData}{ps:List Str}(F:f6 K x qual st f fd)
  (h: ∀(kV doc pm:Value)(an:Option Addr)(eM ct:Value)(us:List Value),us.length=ps.length→bindArgs (W.fnOf x qual (kl st) (jz st) (aB st) .none kV doc pm an eM ct) ⟨us,[]⟩=pure (ps.zip us)):Binds K fd ps []:=by
 obtain⟨oc,od,kV,doc,pm,an,eM,ct,Ov,rfl,lk,tV⟩:=F.ex
 exact .all (h kV doc pm an eM ct)
theorem Ac{x qual:Str}{st:Stmt}{f:Addr}{oc:Value}{od an:Option Addr}{Ov:Array (Option Value)}{kV doc pm eM ct:Value}(l:K.lookup f=some ⟨oc,od,.func (W.fnOf x qual (kl st) (jz st) (aB st) .none kV doc pm an eM ct),Ov⟩)
  (c:W.codeIn K eM qual=true)(k:W.keepIn K (.ref f)=true):f6 K x qual st f (W.fnOf x qual (kl st) (jz st) (aB st) .none kV doc pm an eM ct):=⟨⟨oc,od,kV,doc,pm,an,eM,ct,Ov,rfl,l,c⟩,k⟩
end
section
variable{X:Cx}
theorem pv(i:Nat){x:Str}{pos:Pos}(hN:X.N[i]? =some x:=by rfl)(hv:R8 X.env.scope x:=by first|exact Or.inl rfl|exact Or.inr (Or.inl rfl)|exact Or.inr (Or.inr rfl))(hd:(x==("__debug__":Str))=false:=by decide)
  (tV:(x==("__classdict__":Str))=false:=by decide):PE X (.Name x pos) (Tz i):=Qb hN hv hd tV
end
theorem rT{A B:Prop}(h:B):if false=true then A else B:=by
 rw[aI bb]
 exact h
theorem oi{A B:Prop}(h:A):if true=true then A else B:=by
 rw[aO rfl]
 exact h
theorem gA{c A B:Prop} [Decidable c](h1:c→A)(h2: ¬c→B):if c then A else B:=by
 by_cases h:c
 ·rw[aO h]
  exact h1 h
 ·rw[aI h]
  exact h2 h
def a0(H H':Hp):Prop:=∀b o,H b=some o→H' b=some o
theorem a0.trans{H H1 H2:Hp}(a:a0 H H1)(b:a0 H1 H2):a0 H H2:=fun c o h=>b c o (a c o h)
theorem a0.seq{K:W.Frag}{H H':Hp}{a:Addr}{xs:List V}(e:a0 H H')(h:cy K H a xs):cy K H' a xs:=by
 rcases h with(h|⟨o,h⟩)|h
 ·exact .inl (.inl (e _ _ h))
 ·exact .inl (.inr ⟨o,e _ _ h⟩)
 ·exact .inr h
theorem at_of{xs:List V}{z:Int}{j:Nat}{v:V}(e:z=(j:Int))(h:xs[j]? =some v):Se xs z=some v:=by
 rw[e]
 exact My h
end L2
end
section
section
namespace L2
open PySem PySem.Spec PyProof.Rows
open PySem.W (WData Codec OpenSpec Well WellAll ReadsW ReadsAllW)
mutual
inductive Dw(K:W.Frag)(H:Hp):V→WData→Prop
 |fC:Dw K H .fC .none
 |bl (b:Bool):Dw K H (.bl b) (.bool b)
 |int (i:Int):Dw K H (.int i) (.int i)
 |str (x:Str):Dw K H (.str x) (.str x)
 |Bp (b:Array UInt8):Dw K H (.Bp b) (.bytes b.toList)
 |lst {a:Addr} {xs:List V} {ds:List WData}:cy K H a xs→oa K H xs ds→Dw K H (.ref a) (.list ds)
 |tup {a:Addr} {xs:List V} {ds:List WData}:Ls K H a xs→oa K H xs ds→Dw K H (.ref a) (.tuple ds)
inductive oa(K:W.Frag)(H:Hp):List V→List WData→Prop
 |nil:oa K H [] []
 |cons {v:V} {vs:List V} {d:WData} {ds:List WData}:Dw K H v d→oa K H vs ds→oa K H (v::vs) (d::ds)
end
theorem EL{K:W.Frag}{H:Hp}: ∀ns:List Int,oa K H (ns.map V.int) (ns.map WData.int)
 |[]=>.nil
 |n::r=>.cons (.int n) (EL r)
theorem EM{K:W.Frag}{H:Hp}: ∀(ns:List Int)(xs:List V),oa K H xs (ns.map WData.int)→xs=ns.map V.int
 |[],xs,h=>by
  cases h
  rfl
 |n::r,xs,h=>by
  cases h with
  |cons h1 h2=>
   cases h1
   rw[EM r _ h2]<;>rfl
section
variable{P:Program}{w:World}{K:W.Frag}{H:Hp}{h:Heap}{R:W.WRecords}{cl:Str→Option Addr}
theorem QJ{a:Addr}{xs:List V}(eZ:rJ P w H h)(KX:K.In h)(q:cy K H a xs): ∃(cw:List Value)(o:Obj)(n:Nat),Vals xs cw∧h.get? a=some o∧o.cls=.type "list"∧o.data=.seq cw.toArray n:=by
 rcases q with q|⟨o,cw,n,e,hc,_,hd,_,hv⟩
 ·obtain⟨_,cw,n,hv,e⟩:=(show iD P w H h a (.lst xs)from q.ok eZ)
  exact⟨cw,_,n,hv,e,rfl,rfl⟩
 ·exact⟨cw.toList,o,n,hv,KX _ _ e,hc,by simp[hd]⟩
theorem QK{a:Addr}{xs:List V}(eZ:rJ P w H h)(KX:K.In h)(q:Ls K H a xs): ∃(cw:List Value)(o:Obj)(n:Nat),Vals xs cw∧h.get? a=some o∧o.cls=.type "tuple"∧o.data=.seq cw.toArray n:=by
 rcases q with q|⟨o,cw,n,e,hc,hd,_,hv⟩
 ·obtain⟨_,cw,hv,o,e,hc,n,hd⟩:=(show iD P w H h a (.tup xs)from q.ok eZ)
  exact⟨cw,o,n,hv,e,hc,hd⟩
 ·exact⟨cw.toList,o,n,hv,KX _ _ e,hc,by simp[hd]⟩
mutual
theorem Dw.reads(eZ:rJ P w H h)(KX:K.In h): ∀(d:WData)(v:V)(u:Value),Dw K H v d→RelV v u→∃as,ReadsW R cl h u d as
 |.none,_,_,x,r=>by
  cases x
  cases r
  exact⟨_,ReadsW.none⟩
 |.bool b,_,_,x,r=>by
  cases x
  cases r
  exact⟨_,ReadsW.bool b⟩
 |.int i,_,_,x,r=>by
  cases x
  obtain⟨t,rfl⟩:=r
  exact⟨_,ReadsW.int i t⟩
 |.str s,_,_,x,r=>by
  cases x
  obtain⟨t,rfl⟩:=r
  exact⟨_,ReadsW.str s t⟩
 |.bytes b,_,_,x,r=>by
  cases x
  obtain⟨t,rfl⟩:=r
  exact⟨_,ReadsW.bytes _ t⟩
 |.list ds,_,_,x,r=>by
  cases x with
  |lst hs ha=>
   cases r
   obtain⟨cw,o,n,rv,ho,hc,hd⟩:=QJ eZ KX hs
   obtain⟨as,hr⟩:=Dw.readsAll eZ KX ds _ cw ha rv
   exact⟨_,ReadsW.list ho hc hd hr⟩
 |.tuple ds,_,_,x,r=>by
  cases x with
  |tup hs ha=>
   cases r
   obtain⟨cw,o,n,rv,ho,hc,hd⟩:=QK eZ KX hs
   obtain⟨as,hr⟩:=Dw.readsAll eZ KX ds _ cw ha rv
   exact⟨_,ReadsW.tuple ho hc hd hr⟩
 |.float _,_,_,x,_=>by cases x
 |.dict _,_,_,x,_=>by cases x
 |.bytearray _,_,_,x,_=>by cases x
 |.set _,_,_,x,_=>by cases x
 |.frozenset _,_,_,x,_=>by cases x
 |.obj _ _,_,_,x,_=>by cases x
theorem Dw.readsAll(eZ:rJ P w H h)(KX:K.In h): ∀(ds:List WData)(vs:List V)(us:List Value),oa K H vs ds→Vals vs us→∃as,ReadsAllW R cl h us ds as
 |[],_,_,x,r=>by
  cases x
  cases r
  exact⟨_,ReadsAllW.nil⟩
 |d::ds,_,_,x,r=>by
  cases x with
  |cons h1 h2=>
   cases r with
   |cons r1 r2=>
    obtain⟨as,q1⟩:=Dw.reads eZ KX d _ _ h1 r1
    obtain⟨bs,q2⟩:=Dw.readsAll eZ KX ds _ _ h2 r2
    exact⟨_,ReadsAllW.cons q1 q2⟩
end
end
mutual
def EN:WData→Bool
 |.none=>true
 |.bool _=>true
 |.int _=>true
 |.str _=>true
 |.bytes _=>true
 |.list xs=>ux xs
 |.tuple xs=>ux xs
 |_=>false
def ux:List WData→Bool
 |[]=>true
 |x::r=>EN x&&ux r
end
theorem BF{α:Type}{f:α→WData}(h: ∀a,EN (f a)=true): ∀l:List α,ux (l.map f)=true
 |[]=>rfl
 |x::r=>by
  show(EN (f x)&&ux (r.map f))=true
  rw[h x,BF h r]<;>rfl
theorem oX: ∀(c:Codec)(a:c.denote),EN (c.enc a)=true
 |.unit,_=>rfl
 |.bool,_=>rfl
 |.int _ _,_=>rfl
 |.nat _ _,_=>rfl
 |.u8,_=>rfl
 |.bytes _ _,_=>rfl
 |.text _ _ _ _,_=>rfl
 |.list _ _ c,a=>BF (fun x=>oX c x) a
 |.pair c d,a=>by
  show(EN (c.enc a.1)&&(EN (d.enc a.2)&&true))=true
  rw[oX c a.1,oX d a.2]<;>rfl
 |.triple c d e,a=>by
  show(EN (c.enc a.1)&&(EN (d.enc a.2.1)&&(EN (e.enc a.2.2)&&true)))=true
  rw[oX c a.1,oX d a.2.1,oX e a.2.2]<;>rfl
 |.option c,none=>rfl
 |.option c,some x=>oX c x
theorem yz: ∀(cs:List Codec)(a:Codec.denoteAll cs),ux (Codec.encAll cs a)=true
 |[],_=>rfl
 |c::cs,a=>by
  show(EN (c.enc a.1)&&ux (Codec.encAll cs a.2))=true
  rw[oX c a.1,yz cs a.2]<;>rfl
theorem qv: ∀{xs:List WData}{d:WData},d∈xs→d.weight≤WData.weightAll xs
 |[],d,h=>absurd h (by simp)
 |x::r,d,h=>by
  show d.weight≤x.weight+1+WData.weightAll r
  rcases aH.mp h with e|m
  ·rw[e]
   omega
  ·have z:=qv m
   omega
def toV:Value→V
 |.none=>.fC
 |.bool b=>.bl b
 |.int i _=>.int i
 |.str x _=>.str x
 |.bytes b _=>.Bp b
 |.ref a=>.ref a
 |_=>.fC
def Gz(A:List Addr):Value→Prop
 |.none=>True
 |.bool _=>True
 |.int _ _=>True
 |.str _ _=>True
 |.bytes _ _=>True
 |.ref a=>a∈A
 |_=>False
theorem Gz.mono{A B:List Addr}(h: ∀a∈A,a∈B): ∀{u:Value},Gz A u→Gz B u:=fun{u} x=>by
 cases u with
 |ref a=>exact h a x
 |none=>trivial
 |bool b=>trivial
 |int i t=>trivial
 |str s t=>trivial
 |bytes b t=>trivial
 |_=>exact False.elim x
theorem JE{A:List Addr}{u:Value}(x:Gz A u):RelV (toV u) u:=by
 cases u with
 |ref a=>rfl
 |none=>rfl
 |bool b=>rfl
 |int i t=>exact⟨t,rfl⟩
 |str s t=>exact⟨t,rfl⟩
 |bytes b t=>exact⟨t,rfl⟩
 |_=>exact False.elim x
theorem mq{A:List Addr}: ∀{vs:List Value},(∀u∈vs,Gz A u)→Vals (vs.map toV) vs
 |[],_=>.nil
 |u::r,h=>.cons (JE (h u (cv ..))) (mq fun x hx=>h x (bu _ hx))
def oe(h:Heap)(A:List Addr)(a:Addr):Prop:=∃vs:List Value,vs.length≤sizeLine∧(∀u∈vs,Gz A u)∧
 (h.get? a=some {cls:=.type "list",data:=.seq vs.toArray}∨h.get? a=some {cls:=.type "tuple",data:=.seq vs.toArray})
theorem oe.mono{h:Heap}{A B:List Addr}{a:Addr}(k: ∀a∈A,a∈B)(x:oe h A a):oe h B a:=by
 obtain⟨vs,h1,h2,h3⟩:=x
 exact⟨vs,h1,fun u hu=>(h2 u hu).mono k,h3⟩
theorem lC{P:Params}{h:Heap}: ∀{vs:List Value}{ds:List WData},WellAll P h vs ds→vs.length=ds.length
 |_,_,.nil=>rfl
 |_,_,.cons _ b=>by
  show _+1=_+1
  rw[lC b]
theorem yA{P:Params}{h:Heap}{v:Value}{ds:List WData}(x:Well P h v (.list ds)): ∃(a:Addr)(vs:List Value),v=.ref a∧h.get? a=some {cls:=.type "list",data:=.seq vs.toArray}∧WellAll P h vs ds:=by
 cases x with
 |list ho fq=>exact⟨_,_,rfl,ho,fq⟩
theorem wG{P:Params}{h:Heap}{v:Value}{ds:List WData}(x:Well P h v (.tuple ds)): ∃(a:Addr)(vs:List Value),v=.ref a∧h.get? a=some {cls:=.type "tuple",data:=.seq vs.toArray}∧WellAll P h vs ds:=by
 cases x with
 |tuple ho fq=>exact⟨_,_,rfl,ho,fq⟩
theorem yB{P:Params}{h:Heap}{us:List Value}{d:WData}{ds:List WData}(x:WellAll P h us (d::ds)): ∃(v:Value)(vs:List Value),us=v::vs∧Well P h v d∧WellAll P h vs ds:=by
 cases x with
 |cons a b=>exact⟨_,_,rfl,a,b⟩
theorem EO{n:Nat}(h:n≤1048576):n≤sizeLine:=bW h (by decide)
section
variable{P:Params}{h:Heap}
mutual
theorem JF: ∀(d:WData)(v:Value),Well P h v d→EN d=true→d.weight≤1048576→∃A:List Addr,Gz A v∧∀a∈A,oe h A a
 |.none,_,x,_,_=>by
  cases x
  exact⟨[],trivial,fun a m=>absurd m (by simp)⟩
 |.bool b,_,x,_,_=>by
  cases x
  exact⟨[],trivial,fun a m=>absurd m (by simp)⟩
 |.int i,_,x,_,_=>by
  cases x
  exact⟨[],trivial,fun a m=>absurd m (by simp)⟩
 |.str s,_,x,_,_=>by
  cases x
  exact⟨[],trivial,fun a m=>absurd m (by simp)⟩
 |.bytes b,_,x,_,_=>by
  cases x
  exact⟨[],trivial,fun a m=>absurd m (by simp)⟩
 |.list ds,_,x,p,z=>by
  obtain⟨a,vs,rfl,ho,fq⟩:=yA x
  have z2:WData.weightAll ds≤1048576:=z
  obtain⟨A,h1,h2⟩:=rV ds _ fq p fun d hd=>bW (qv hd) z2
  have k: ∀b∈A,b∈a::A:=fun b hb=>bu _ hb
  refine⟨a::A,cv ..,fun b hb=>?_⟩
  rcases aH.mp hb with e|m
  ·rw[e]
   exact⟨vs,EO (by rw[lC fq];exact bW (W.length_le_weightAllW ds) z2),fun u hu=>(h1 u hu).mono k,.inl ho⟩
  ·exact(h2 b m).mono k
 |.tuple ds,_,x,p,z=>by
  obtain⟨a,vs,rfl,ho,fq⟩:=wG x
  have z2:WData.weightAll ds≤1048576:=z
  obtain⟨A,h1,h2⟩:=rV ds _ fq p fun d hd=>bW (qv hd) z2
  have k: ∀b∈A,b∈a::A:=fun b hb=>bu _ hb
  refine⟨a::A,cv ..,fun b hb=>?_⟩
  rcases aH.mp hb with e|m
  ·rw[e]
   exact⟨vs,EO (by rw[lC fq];exact bW (W.length_le_weightAllW ds) z2),fun u hu=>(h1 u hu).mono k,.inr ho⟩
  ·exact(h2 b m).mono k
 |.float _,_,_,p,_=>Bool.noConfusion (show false=true from p)
 |.dict _,_,_,p,_=>Bool.noConfusion (show false=true from p)
 |.bytearray _,_,_,p,_=>Bool.noConfusion (show false=true from p)
 |.set _,_,_,p,_=>Bool.noConfusion (show false=true from p)
 |.frozenset _,_,_,p,_=>Bool.noConfusion (show false=true from p)
 |.obj _ _,_,_,p,_=>Bool.noConfusion (show false=true from p)
theorem rV: ∀(ds:List WData)(vs:List Value),WellAll P h vs ds→ux ds=true→(∀d∈ds,d.weight≤1048576)→∃A:List Addr,(∀u∈vs,Gz A u)∧∀a∈A,oe h A a
 |[],_,x,_,_=>by
  cases x
  exact⟨[],fun u m=>absurd m (by simp),fun a m=>absurd m (by simp)⟩
 |d::ds,_,x,p,z=>by
  obtain⟨v,vs,rfl,x1,x2⟩:=yB x
  have q:EN d=true∧ux ds=true:=Bool.and_eq_true_iff.mp p
  obtain⟨A,a1,a2⟩:=JF d v x1 q.1 (z d (cv ..))
  obtain⟨B,b1,b2⟩:=rV ds vs x2 q.2 fun e he=>z e (bu _ he)
  have kA: ∀b∈A,b∈A++B:=fun b hb=>bP.mpr (.inl hb)
  have kB: ∀b∈B,b∈A++B:=fun b hb=>bP.mpr (.inr hb)
  refine⟨A++B,fun u hu=>?_,fun b hb=>?_⟩
  ·rcases aH.mp hu with e|m
   ·rw[e]
    exact a1.mono kA
   ·exact(b1 u m).mono kB
  ·rcases bP.mp hb with m|m
   ·exact(a2 b m).mono kA
   ·exact(b2 b m).mono kB
end
end
def MK(o:Obj):Option HO:=match o.data with
 |.seq vs _=>if(o.cls==Value.type "list")=true then some (.zG o (.lst (vs.toList.map toV)))else some (.zG o (.tup (vs.toList.map toV)))
 |_=>none
def mX(K:W.Frag)(h:Heap)(A:List Addr):Hp:=fun b=>if b∈A then(if(K.lookup b).isNone=true then(h.get? b).bind MK else none)else none
def BG(H:Hp):Prop:=∀b,H b=none∨∃o u,H b=some (.zG o u)
theorem BH(vs:List Value):MK {cls:=.type "list",data:=.seq vs.toArray}=some (.zG {cls:=.type "list",data:=.seq vs.toArray} (.lst (vs.map toV))):=by
 show(if(Value.type "list"==Value.type "list")=true then some (HO.zG {cls:=.type "list",data:=.seq vs.toArray} (.lst (vs.toArray.toList.map toV)))else some (HO.zG {cls:=.type "list",data:=.seq vs.toArray} (.tup (vs.toArray.toList.map toV))))=_
 rw[aO (beq_self_eq_true _)]
theorem BI(vs:List Value):MK {cls:=.type "tuple",data:=.seq vs.toArray}=some (.zG {cls:=.type "tuple",data:=.seq vs.toArray} (.tup (vs.map toV))):=by
 show(if(Value.type "tuple"==Value.type "list")=true then some (HO.zG {cls:=.type "tuple",data:=.seq vs.toArray} (.lst (vs.toArray.toList.map toV)))else some (HO.zG {cls:=.type "tuple",data:=.seq vs.toArray} (.tup (vs.toArray.toList.map toV))))=_
 rw[aI (by decide)]
section
variable{P:Program}{w:World}{K:W.Frag}{h:Heap}{A:List Addr}
theorem uN{b:Addr}{o:Obj}(hb:b∈A)(hk:K.lookup b=none)(e:h.get? b=some o):mX K h A b=MK o:=by
 unfold mX
 rw[aO hb,hk,aO (show(none:Option Obj).isNone=true from rfl),e]<;>rfl
theorem ML{b:Addr}{u:HO}(q:mX K h A b=some u):b∈A∧K.lookup b=none:=by
 unfold mX at q
 by_cases hb:b∈A
 ·rw[aO hb]at q
  cases hk:K.lookup b with
  |none=>exact⟨hb,rfl⟩
  |some o=>
   rw[hk,aI (by simp)]at q
   cases q
 ·rw[aI hb]at q
  cases q
theorem uO(ar: ∀a∈A,oe h A a){b:Addr}{u:HO}(q:mX K h A b=some u):K.lookup b=none∧∃vs:List Value,vs.length≤sizeLine∧(∀u∈vs,Gz A u)∧
  ((h.get? b=some {cls:=.type "list",data:=.seq vs.toArray}∧u=.zG {cls:=.type "list",data:=.seq vs.toArray} (.lst (vs.map toV)))∨
   (h.get? b=some {cls:=.type "tuple",data:=.seq vs.toArray}∧u=.zG {cls:=.type "tuple",data:=.seq vs.toArray} (.tup (vs.map toV)))):=by
 obtain⟨hb,hk⟩:=ML q
 obtain⟨vs,h1,h2,h3⟩:=ar b hb
 refine⟨hk,vs,h1,h2,?_⟩
 rcases h3 with e|e
 ·rw[uN hb hk e,BH]at q
  exact .inl ⟨e,(a7 q).symm⟩
 ·rw[uN hb hk e,BI]at q
  exact .inr ⟨e,(a7 q).symm⟩
theorem GA(ar: ∀a∈A,oe h A a):BG (mX K h A):=fun b=>by
 cases q:mX K h A b with
 |none=>exact .inl rfl
 |some u=>
  obtain⟨_,vs,_,_,⟨_,e⟩|⟨_,e⟩⟩:=uO ar q
  ·exact .inr ⟨_,_,by rw[e]⟩
  ·exact .inr ⟨_,_,by rw[e]⟩
theorem MM(ar: ∀a∈A,oe h A a):rJ P w (mX K h A) h:=fun b u q=>by
 obtain⟨_,vs,h1,h2,⟨e,rfl⟩|⟨e,rfl⟩⟩:=uO ar q
 ·exact⟨e,by rw[ae];exact h1,vs,_,mq h2,e⟩
 ·exact⟨e,by rw[ae];exact h1,vs,mq h2,_,e,rfl,_,rfl⟩
theorem uP{c c':Value}{vs us:List Value}(e:(some {cls:=c,data:=.seq vs.toArray}:Option Obj)=some {cls:=c',data:=.seq us.toArray}):c=c'∧vs=us:=by
 have e1:=a7 e
 have e2:c=c':=ba Obj.cls e1
 have e3:Data.seq vs.toArray=Data.seq us.toArray:=ba Obj.data e1
 injection e3 with e4
 refine⟨e2,?_⟩
 have e5:=ba Array.toList e4
 simpa using e5
theorem Ys(KX:K.In h)(ar: ∀a∈A,oe h A a){a:Addr}{vs:List Value}(ha:a∈A)(e:h.get? a=some {cls:=.type "list",data:=.seq vs.toArray}):(∀u∈vs,Gz A u)∧cy K (mX K h A) a (vs.map toV):=by
 obtain⟨us,h1,h2,h3⟩:=ar a ha
 have hu:us=vs:=by
  rcases h3 with q|q
  ·rw[e]at q
   exact(uP q).2.symm
  ·rw[e]at q
   exact absurd (Value.type.inj (uP q).1) (by decide)
 subst hu
 refine⟨h2,?_⟩
 cases hk:K.lookup a with
 |none=>exact .inl (.inr ⟨_,by rw[uN ha hk e,BH]⟩)
 |some o=>
  have e2:=KX a o hk
  rw[e]at e2
  obtain rfl:=a7 e2
  exact .inr ⟨_,us.toArray,_,hk,rfl,rfl,rfl,by rw[aV];exact h1,by simpa using mq h2⟩
theorem Yt(KX:K.In h)(ar: ∀a∈A,oe h A a){a:Addr}{vs:List Value}(ha:a∈A)(e:h.get? a=some {cls:=.type "tuple",data:=.seq vs.toArray}):(∀u∈vs,Gz A u)∧Ls K (mX K h A) a (vs.map toV):=by
 obtain⟨us,h1,h2,h3⟩:=ar a ha
 have hu:us=vs:=by
  rcases h3 with q|q
  ·rw[e]at q
   exact absurd (Value.type.inj (uP q).1) (by decide)
  ·rw[e]at q
   exact(uP q).2.symm
 subst hu
 refine⟨h2,?_⟩
 cases hk:K.lookup a with
 |none=>exact .inl (.inr ⟨_,by rw[uN ha hk e,BI]⟩)
 |some o=>
  have e2:=KX a o hk
  rw[e]at e2
  obtain rfl:=a7 e2
  exact .inr ⟨_,us.toArray,_,hk,rfl,rfl,by rw[aV];exact h1,by simpa using mq h2⟩
mutual
theorem QL{Pm:Params}(KX:K.In h)(ar: ∀a∈A,oe h A a): ∀(d:WData)(v:Value),Well Pm h v d→EN d=true→Gz A v→Dw K (mX K h A) (toV v) d
 |.none,_,x,_,_=>by
  cases x
  exact .fC
 |.bool b,_,x,_,_=>by
  cases x
  exact .bl b
 |.int i,_,x,_,_=>by
  cases x
  exact .int i
 |.str s,_,x,_,_=>by
  cases x
  exact .str s
 |.bytes b,_,x,_,_=>by
  cases x
  have z:=Dw.Bp (K:=K) (H:=mX K h A) b.toArray
  exact z
 |.list ds,_,x,p,hu=>by
  obtain⟨a,vs,rfl,ho,fq⟩:=yA x
  obtain⟨h2,hs⟩:=Ys KX ar hu ho
  exact .lst hs (Ad KX ar ds _ fq p h2)
 |.tuple ds,_,x,p,hu=>by
  obtain⟨a,vs,rfl,ho,fq⟩:=wG x
  obtain⟨h2,hs⟩:=Yt KX ar hu ho
  exact .tup hs (Ad KX ar ds _ fq p h2)
 |.float _,_,_,p,_=>Bool.noConfusion (show false=true from p)
 |.dict _,_,_,p,_=>Bool.noConfusion (show false=true from p)
 |.bytearray _,_,_,p,_=>Bool.noConfusion (show false=true from p)
 |.set _,_,_,p,_=>Bool.noConfusion (show false=true from p)
 |.frozenset _,_,_,p,_=>Bool.noConfusion (show false=true from p)
 |.obj _ _,_,_,p,_=>Bool.noConfusion (show false=true from p)
theorem Ad{Pm:Params}(KX:K.In h)(ar: ∀a∈A,oe h A a): ∀(ds:List WData)(vs:List Value),WellAll Pm h vs ds→ux ds=true→(∀u∈vs,Gz A u)→oa K (mX K h A) (vs.map toV) ds
 |[],_,x,_,_=>by
  cases x
  exact .nil
 |d::ds,_,x,p,hu=>by
  obtain⟨v,vs,rfl,x1,x2⟩:=yB x
  have q:EN d=true∧ux ds=true:=Bool.and_eq_true_iff.mp p
  exact .cons (QL KX ar d v x1 q.1 (hu _ (cv ..))) (Ad KX ar ds vs x2 q.2 fun u m=>hu u (bu _ m))
end
end
theorem GB{P:Program}{w:World}{K:W.Frag}{mg mb:Str→Option Value}{CX:Hy}{k:Nat}{fa:Addr}{fd:FuncData}{ps:List Str}{sp:Sp}{s₁:Shared}{vals:List Value}{ds:List WData}{R:W.WRecords}{cl:Str→Option Addr}{d0:WData}
  (KX:K.In s₁.heap)(LU:s₁.heap.Ns mainGlobals mg)(hb:s₁.heap.Ns builtinsNs mb)(hbb: ∀x:Str,x≠"__name__"→mb x=bootBuiltins x)(Yu:s₁.heap.NoLimit)(hg:s₁.gens=#[])
  (Ur:WellAll w.params s₁.heap vals ds)(n9:ux ds=true)(hwt: ∀d∈ds,d.weight≤1048576)(hr:dY k callerA)
  (F: ∀base:Heap,K.In base→base.Ns mainGlobals mg→cF P w K mg base CX k fa fd ps sp)(Us: ∀(s:Shared)(us:List Value),us.length=ps.length→BindsTo s fd ⟨us,[]⟩ (ps.zip us))(hlen:ds.length=ps.length)
  (Lw: ∀(H:Hp)(xs:List V),BG H→oa K H xs ds→sp xs H (fun v H'=>Dw K H' v d0) fun _ _ _=>False)
  (Ut: ∀H e s',CX [] H s₁ (fun _ _ _=>False) e s'→False):
  codeAny (model P w) callerA (.call (.ref fa) ⟨vals,[]⟩) (fun r s'=>∃u as,r=.ok (.ret u)∧ReadsW R cl s'.heap u d0 as∧OldK s₁.heap s'.heap∧s'.os=s₁.os∧AllBare s'.gens) s₁:=by
 obtain⟨A,ho,ar⟩:=rV ds vals Ur n9 hwt
 have hO:BG (mX K s₁.heap A):=GA ar
 have eZ:rJ P w (mX K s₁.heap A) s₁.heap:=MM ar
 have hS:=Ad KX ar ds vals Ur n9 ho
 have hV:=mq ho
 have hK: ∀b u,mX K s₁.heap A b=some u→K.lookup b=none:=fun b u q=>(uO ar q).1
 have Sd: ∀{b:Addr}{o:Obj}{es:Array DictEntry}{ep:Nat},s₁.heap.get? b=some o→o.data=.dict es ep→mX K s₁.heap A b=none:=fun{b o es ep} e d=>by
  cases q:mX K s₁.heap A b with
  |none=>rfl
  |some u=>
   obtain⟨_,vs,_,_,⟨e2,_⟩|⟨e2,_⟩⟩:=uO ar q
   ·rw[e2]at e
    cases e
    have d':Data.seq vs.toArray _=Data.dict es ep:=d
    cases d'
   ·rw[e2]at e
    cases e
    have d':Data.seq vs.toArray _=Data.dict es ep:=d
    cases d'
 generalize mX K s₁.heap A=H at hO eZ hS hK Sd
 have ER: ∀{b:Addr}{o:Obj},s₁.heap.get? b=some o→H b=none→(zI s₁.heap H).get? b=some o:=fun e n=>IQ e n
 have Wj: ∀{b:Addr}{m:Str→Option Value},s₁.heap.Ns b m→(zI s₁.heap H).Ns b m:=fun{b m}⟨o,es,ep,e,d,r⟩=>⟨o,es,ep,ER e (Sd e d),d,r⟩
 have nK: ∀b o,K.lookup b=some o→H b=none:=fun b o e=>by
  cases q:H b with
  |none=>rfl
  |some u=>
   rw[hK b u q]at e
   cases e
 have hKb:K.In (zI s₁.heap H):=fun b o e=>ER (KX b o e) (nK b o e)
 have hM:Mod K mg (zI s₁.heap H):=⟨hKb,Wj LU,⟨mb,Wj hb,hbb⟩,let ⟨mc,h1,h2⟩:=Yu;⟨mc,Wj h1,h2⟩⟩
 have e0:Dl P w K mg (zI s₁.heap H) callerA [] s₁ H:=⟨rfl,hM,fun b o e=>Mf e,pj (Gb _ _),trivial,fun b hb=>absurd (show b∈([]:List Addr)from hb) (by simp),eZ,.of_eq hg⟩
 have hl:vals.length=ps.length:=by rw[lC Ur];exact hlen
 refine sj ((F _ hKb (Wj LU)).run callerA [] s₁ H ⟨vals,[]⟩ vals (vals.map toV) _ _ hr e0 (Us s₁ vals hl) hV (Lw H _ hO hS)) fun r s' x=>?_
 cases r with
 |error e=>exact(Ut H e s' x).elim
 |ok fl=>
  cases fl with
  |next=>exact False.elim x
  |brk=>exact False.elim x
  |cont=>exact False.elim x
  |ret u=>
   obtain⟨v,H',os,bare,un,Uu,r',q⟩:=x
   have kept: ∀b o,s₁.heap.get? b=some o→s'.heap.get? b=some o:=fun b o e=>by
    cases q2:H b with
    |none=>exact un.keep b o e q2 (by intro z;exact absurd (show b∈([]:List Addr)from z) (by simp)) (by simp)
    |some u2=>
     rcases hO b with z|⟨ob,u3,z⟩
     ·rw[q2]at z
      cases z
     ·have z2:=un.zH b ob _ z
      obtain⟨e1,_⟩:=eZ b _ z
      obtain⟨e2,_⟩:=Uu b _ z2
      rw[e]at e1
      cases e1
      exact e2
   have KX':K.In s'.heap:=fun b o e=>kept b o (KX b o e)
   obtain⟨as,Dt⟩:=Dw.reads (R:=R) (cl:=cl) Uu KX' d0 v u q r'
   exact⟨u,as,rfl,Dt,OldK.of_keep kept,os,bare⟩
theorem wH{ds:List WData}(h:WData.layableAll ds=true): ∀d∈ds,d.weight≤1048576:=fun d hd=>
 (W.layableW_iff.mp (aW.mp h d hd)).2.2
theorem wI: ∀(cs:List Codec)(a:Codec.denoteAll cs),(Codec.encAll cs a).length=cs.length
 |[],_=>rfl
 |c::cs,a=>by
  show(Codec.encAll cs a.2).length+1=cs.length+1
  rw[wI cs a.2]
theorem GC{r:OpenSpec}{k:Nat}{q:Program}{loose:List Str}{XP:(Str→Option Value)→Heap→Prop}{YP:World→Heap→Prop}{d:DefRec}{K:Params→W.Frag}{CX:World→Hy}{ps:List Str}{sp:World→Sp}
  (JG:r.wellSaid=true)(hdf:d.params.defaults=[])(hlen:r.args.length=ps.length)(hr:dY k callerA)
  (hY: ∀(w:World)(h:Heap),YP w h→(K w.params).In h)
  (F: ∀(w:World)(mg:Str→Option Value)(fa:Addr)(h:Heap),YP w h→(K w.params).In h→h.Ns mainGlobals mg→mg d.name=some (.ref fa)→
   ∃fd:FuncData,(∀(s:Shared)(us:List Value),us.length=ps.length→BindsTo s fd ⟨us,[]⟩ (ps.zip us))∧
    ∀base:Heap,(K w.params).In base→base.Ns mainGlobals mg→cF r.prog w (K w.params) mg base (CX w) k fa fd ps (sp w))
  (Lw: ∀(w:World)(H:Hp)(xs:List V)(a:Codec.denoteAll r.args),BG H→Codec.withinAll r.args a=true→Codec.app r.args r.asked a=true→oa (K w.params) H xs (Codec.encAll r.args a)→
   sp w xs H (fun v H'=>Dw (K w.params) H' v (r.ret.enc (Codec.app r.args r.f a))) fun _ _ _=>False)
  (Ut: ∀(w:World)(H:Hp)(s:Shared)(e:Value)(s':Shared),CX w [] H s (fun _ _ _=>False) e s'→False):
  W.WalkOS q loose XP YP r d [] (fun f vs=>PySem.call f vs):=by
 intro w yk s₁ mg mb G Y fa o pm cd doc dV kV ho hd tV hD Yv hg args vals as Yw Yx Dt Ur hlo
 obtain⟨a,e1,e2⟩:=W.os_pre_some Yw
 obtain⟨e3,S6⟩:=Codec.encAll_of_decAll r.args args a e1
 subst e3
 have KX:=hY w _ Y
 obtain⟨fd,hb,hF⟩:=F w mg fa _ Y KX G.T.g Yv
 refine W.enter_call (sj (GB (R:=[]) (cl:=classAt yk.heap) (d0:=r.ret.enc (Codec.app r.args r.f a)) KX G.T.g G.T.b G.T.builtins G.T.nolimit hg Ur (yz _ _) (wH Yx) hr hF hb (by rw[wI];exact hlen)
  (fun H xs hO hS=>Lw w H xs a hO S6 e2 hS) fun H e s'=>Ut w H s₁ e s') fun r' s' hq=>?_)
 obtain⟨u,Yy,rfl,h1,h2,h3,h4⟩:=hq
 exact⟨.inl ⟨u,_,Yy,rfl,fun _=>rfl,h1,(OpenSpec.post_iff JG S6 _ _).mpr rfl,fun z=>Bool.noConfusion (show false=true from z)⟩,h2,h3,h4⟩
theorem Du{r:OpenSpec}{k:Nat}{q:Program}{loose:List Str}{XP:(Str→Option Value)→Heap→Prop}{YP:World→Heap→Prop}{d:DefRec}{K:Params→W.Frag}{CX:Hy}{ps:List Str}{sp:W.Frag→Sp}
  (JG:r.wellSaid=true)(hdf:d.params.defaults=[])(hlen:r.args.length=ps.length)(hr:dY k callerA)
  (hY: ∀(w:World)(h:Heap),YP w h→(K w.params).In h)
  (F: ∀(w:World)(mg:Str→Option Value)(fa:Addr)(h:Heap),YP w h→(K w.params).In h→h.Ns mainGlobals mg→mg d.name=some (.ref fa)→
   ∃fd:FuncData,(∀(s:Shared)(us:List Value),us.length=ps.length→BindsTo s fd ⟨us,[]⟩ (ps.zip us))∧
    ∀base:Heap,(K w.params).In base→base.Ns mainGlobals mg→cF r.prog w (K w.params) mg base CX k fa fd ps (sp (K w.params)))
  (Lw: ∀(K:W.Frag)(H:Hp)(xs:List V)(a:Codec.denoteAll r.args),BG H→Codec.withinAll r.args a=true→Codec.app r.args r.asked a=true→oa K H xs (Codec.encAll r.args a)→
   sp K xs H (fun v H'=>Dw K H' v (r.ret.enc (Codec.app r.args r.f a))) fun _ _ _=>False)
  (Ut: ∀(H:Hp)(s:Shared)(e:Value)(s':Shared),CX [] H s (fun _ _ _=>False) e s'→False):
  W.WalkOS q loose XP YP r d [] (fun f vs=>PySem.call f vs):=
 GC (K:=K) (CX:=fun _=>CX) (sp:=fun w=>sp (K w.params)) JG hdf hlen hr hY F (fun w H xs a h1 h2 h3 h4=>Lw (K w.params) H xs a h1 h2 h3 h4) fun _ H s e s'=>Ut H s e s'
end L2
end
end
section
namespace GT
open PySem PySem.Spec PyProof.Rows L2
def top(i:Nat):Stmt:=PySem.Challenge.pw_grouptable_s01_answers.main.body.getD i (.Pass ⟨0,0,0,0⟩)
abbrev g8:Stmt:=top 1
abbrev jA:Stmt:=top 2
abbrev lR:Stmt:=top 3
abbrev gX:Stmt:=top 4
abbrev jo:Stmt:=top 6
abbrev mY:Stmt:=top 7
abbrev g9:Stmt:=top 8
abbrev fX:Stmt:=top 9
abbrev mZ:Stmt:=top 10
abbrev qw:Stmt:=top 11
abbrev m5:Stmt:=top 12
abbrev kH:Stmt:=top 13
abbrev lD:Stmt:=top 16
abbrev pO:Stmt:=top 17
abbrev hJ:Stmt:=top 19
abbrev lE:Stmt:=top 20
abbrev m6:Stmt:=top 21
abbrev iU:Stmt:=top 22
abbrev fm:Stmt:=top 23
abbrev oY:Stmt:=top 24
abbrev mr:Stmt:=top 25
abbrev gB:Stmt:=top 28
abbrev lS:Stmt:=top 29
abbrev oZ:Stmt:=top 30
abbrev fI:Stmt:=top 31
abbrev iV:Stmt:=top 32
abbrev gC:Stmt:=top 33
abbrev lT:Stmt:=top 37
abbrev m7:Stmt:=top 38
abbrev qx:Stmt:=top 40
abbrev lU:Stmt:=top 41
abbrev m8:Stmt:=top 44
abbrev gE:Stmt:=top 45
abbrev fY:Stmt:=top 46
abbrev jq:Stmt:=top 66
abbrev lV:Stmt:=top 67
abbrev kI:Stmt:=top 68
abbrev m9:Stmt:=top 69
abbrev Ae:Stmt:=top 70
abbrev ng:Stmt:=top 71
abbrev qy:Stmt:=top 72
abbrev tp:Stmt:=top 73
abbrev ik:Stmt:=top 74
abbrev Dv:Stmt:=top 75
abbrev lW:Stmt:=top 76
abbrev Af:Stmt:=top 77
abbrev kJ:Stmt:=top 78
abbrev qz:Stmt:=top 79
abbrev nh:Stmt:=inClass (top 15) 0
abbrev hX:Stmt:=inClass (top 15) 1
abbrev kK:Stmt:=inClass (top 15) 2
abbrev km:Stmt:=inClass (top 15) 3
abbrev jr:Stmt:=inClass (top 15) 4
abbrev lX:Stmt:=inClass (top 35) 0
abbrev jW:Stmt:=inClass (top 35) 1
abbrev gg:Stmt:=inClass (top 35) 2
abbrev iW:Stmt:=inClass (top 35) 3
abbrev iX:Stmt:=inClass (top 43) 0
abbrev iY:Stmt:=inClass (top 43) 1
abbrev iZ:Stmt:=inClass (top 43) 2
abbrev fU:Stmt:=inClass (top 43) 3
abbrev js:Stmt:=inClass (top 43) 4
abbrev ip:Stmt:=inClass (top 43) 5
abbrev o4:Stmt:=inClass (top 65) 0
def IL(K:W.Frag)(H:Hp)(v:V)(ns:List Int):Prop:=∃a,v=.ref a∧cy K H a (ns.map V.int)
def eA(K:W.Frag)(H:Hp):List Addr→List (List Int)→Prop
 |[],[]=>True
 |a::as,r::rs=>cy K H a (r.map V.int)∧eA K H as rs
 |_,_=>False
def TL(K:W.Frag)(H:Hp)(v:V)(rs:List (List Int)):Prop:=∃a as,v=.ref a∧cy K H a (as.map V.ref)∧eA K H as rs
section
variable{K:W.Frag}{H H':Hp}
theorem IL.same{v:V}{ns:List Int}(e:a0 H H')(h:IL K H v ns):IL K H' v ns:=by
 obtain⟨a,rfl,h⟩:=h
 exact⟨a,rfl,e.seq h⟩
theorem eA.same(e:a0 H H'): ∀{as:List Addr}{rs:List (List Int)},eA K H as rs→eA K H' as rs
 |[],[],h=>h
 |a::as,r::rs,h=>⟨e.seq h.1,eA.same e h.2⟩
 |[],_::_,h=>h.elim
 |_::_,[],h=>h.elim
theorem TL.same{v:V}{rs:List (List Int)}(e:a0 H H')(h:TL K H v rs):TL K H' v rs:=by
 obtain⟨a,as,rfl,h1,h2⟩:=h
 exact⟨a,as,rfl,e.seq h1,h2.same e⟩
theorem eA.len: ∀{as:List Addr}{rs:List (List Int)},eA K H as rs→as.length=rs.length
 |[],[],_=>rfl
 |a::as,r::rs,h=>ba (·+1) (eA.len h.2)
 |[],_::_,h=>h.elim
 |_::_,[],h=>h.elim
theorem eA.at_: ∀{as:List Addr}{rs:List (List Int)}{i:Nat}{b:Addr},eA K H as rs→as[i]? =some b→∃r,rs[i]? =some r∧cy K H b (r.map V.int)
 |a::as,r::rs,0,b,h,e=>by
  cases (show some a=some b from e)
  exact⟨r,rfl,h.1⟩
 |a::as,r::rs,i+1,b,h,e=>eA.at_ (i:=i) h.2 e
 |[],[],_,_,_,e=>by simp at e
 |[],_::_,_,_,h,_=>h.elim
 |_::_,[],_,_,h,_=>h.elim
theorem a0.refl{H:Hp}:a0 H H:=fun _ _ h=>h
theorem bq{H:Hp}{p:Addr}{o:HO}(h:H p=none):a0 H (upd H p o):=fun b u e=>by
 rw[aE (aK e h)]
 exact e
theorem er{α:Type}{f:α→V}{xs:List α}{i:Nat}{y:V}(h:(xs.map f)[i]? =some y): ∃x,xs[i]? =some x∧y=f x:=by
 rw[ag]at h
 cases e:xs[i]? with
 |none=>
  rw[e]at h
  cases h
 |some x=>
  rw[e]at h
  exact⟨x,rfl,(a7 h).symm⟩
end
structure Txt(mg:Str→Option Value):Prop where
 len:mg "len"=none
 min:mg "min"=none
 max:mg "max"=none
 range:mg "range"=none
 list:mg "list"=none
 all:mg "all"=none
 any:mg "any"=none
 enum:mg "enumerate"=none
 zip:mg "zip"=none
theorem yC:bootBuiltins "any"=some (.builtin "any"):=by decide +kernel
theorem GD:bootBuiltins "all"=some (.builtin "all"):=by decide +kernel
section
variable{P:Program}{w:World}{K:W.Frag}{mg:Str→Option Value}{base:Heap}
def Oy(n:Nat)(r:List Int):Bool:=r.all fun x=>decide (0≤x)&&decide (x<(n:Int))
def hZ(rs:List (List Int)):Bool:=rs.all fun r=>Oy rs.length r
theorem rW{rs:List (List Int)}{r:List Int}{x:Int}(hr:r∈rs)(hx:x∈r)(h:x<0∨(rs.length:Int)≤x):hZ rs=false:=by
 cases e:hZ rs with
 |false=>rfl
 |true=>
  have h1:=aW.mp (aW.mp e r hr) x hx
  rw[aN,aG,aG]at h1
  omega
def BJ(K:W.Frag):Sp:=fun vs H Q _=>∃(v:V)(rs:List (List Int)),vs=[v]∧TL K H v rs∧(∀r∈rs,r≠[])∧Q (.bl (hZ rs)) H
theorem tq:bf ["products","order","row"] ["products"] (aB oZ):=⟨rfl,rfl,rfl,by decide +kernel,rfl,by decide +kernel,by decide +kernel⟩
theorem GG{f:Addr}{fd:FuncData}(F:f6 K "is_closed" "is_closed" oZ f fd)(T:Txt mg):cF P w K mg base fT 1 f fd ["products"] (BJ K):=by
 refine F.ok tq (fun vs H Q E h=>?_) (fun eM A outer s H vs Q E hr h=>?_)
 ·obtain⟨v,rs,rfl,_⟩:=h
  rfl
 ·obtain⟨v,rs,rfl,⟨a,as,rfl,ha,kf⟩,df,k⟩:=h
  refine⟨_,ak (bI (i:=1) tq.nd rfl (Or.inl rfl) (bZ bN (by rfl) T.len bK (ah (pv 0) ax)))
   (ak (gc bx rfl (d8 (pv 0)) (bE (i:=2) tq.nd rfl (Or.inl rfl))
    (aA (dR (PW.pt (Bs (cJ wu (bZ (Qy rfl) (by rfl) T.min boot_min (ah (pv 2) ax)) bG (cW _))
     (zM (cJ Ot (bZ (Jw rfl) (by rfl) T.max boot_max (ah (pv 2) ax)) (pv 1) (cW _)))))
     (aA (a9 qc)) cq)))
   (aA (a9 qc))),?_⟩
  have hlen:as.length=rs.length:=kf.len
  refine⟨_,rfl,a,_,rfl,.inl ha,?_⟩
  refine⟨_,rfl,a,rfl,⟨_,ha⟩,Jd (K:=K) (a:=a) (xs:=as.map V.ref) (fun i σ H'=>∃v:Option V,σ=[some (.ref a),some (.int ((as.map V.ref).length:Nat)),v]∧H'=H∧∀j r,j<i→rs[j]? =some r→Oy rs.length r=true)
   ⟨none,rfl,rfl,fun j r hj=>absurd hj (cY _)⟩ (fun i σ H' _⟨_,_,e,_⟩=>by rw[e];exact ha) ?_ ?_⟩
  ·rintro i y σ H' hi ⟨v,rfl,rfl,fq⟩
   obtain⟨b,hb,rfl⟩:=er hi
   obtain⟨r,iF,i9⟩:=kf.at_ hb
   have Yz:r≠[]:=df r (aL iF)
   have rB:0<r.length:=List.length_pos_iff.mpr Yz
   refine⟨_,rfl,b,r,rfl,i9,rB,fun m PD PF=>?_⟩
   refine⟨_,_,rfl,rfl,_,rfl,?_⟩
   have IE:r∈rs:=aL iF
   refine gA (fun eI=>?_) (fun Ed=>?_)
   ·have hf:hZ rs=false:=rW IE (x:=m) PD (.inl (of_decide_eq_true eI))
    rw[hf]at k
    exact oi k
   ·refine⟨_,rfl,b,r,rfl,i9,rB,fun m' YA YB=>?_⟩
    refine⟨_,rfl,_,_,rfl,rfl,_,rfl,?_⟩
    refine gA (fun Ag=>?_) (fun Uv=>?_)
    ·have hf:hZ rs=false:=rW IE (x:=m') YA (.inr (by have:=of_decide_eq_true Ag;rw[ae,hlen]at this;exact this))
     rw[hf]at k
     exact k
    ·refine⟨_,rfl,rfl,fun j r' hj tu=>?_⟩
     by_cases QM:j=i
     ·subst QM
      rw[iF]at tu
      cases tu
      refine aW.mpr fun x hx=>?_
      have h1:=PF x hx
      have h2:=YB x hx
      have h3: ¬m<0:=fun q=>Ed (decide_eq_true q)
      have h4: ¬((as.map V.ref).length:Int)≤m':=fun q=>Uv (decide_eq_true q)
      rw[ae,hlen]at h4
      exact Bool.and_eq_true_iff.mpr ⟨decide_eq_true (by omega),decide_eq_true (by omega)⟩
     ·exact fq j r' (by omega) tu
  ·rintro σ H' ⟨v,rfl,rfl,fq⟩
   have ht:hZ rs=true:=aW.mpr fun r iF=>by
    obtain⟨j,hj⟩:=d6 iF
    refine fq j r ?_ hj
    rw[ae,hlen]
    exact(aJ.mp hj).1
   rw[ht]at k
   exact k
end
end GT
end
section
namespace GT
open PySem PySem.Spec PyProof.Rows L2
section
variable{X:Cx}
theorem Dx{prog:Program}{w:World}{A:Around}{ns:List Int}{cw:List Value}(rv:Vals (ns.map V.int) cw):
  TruthOf prog w A (fun i v=>cw.toArray[i]? =some v) (fun i=>(ns.map fun k=>k !=0).getD i false):=fun i v s Q E hv hq=>by
 have vz:cw[i]? =some v:=by simpa using hv
 have hlen:=rv.length
 obtain⟨xN,_⟩:=aJ.mp vz
 rw[ae]at hlen
 have hn:ns[i]? =some ns[i]:=aj (by omega)
 obtain⟨u,hu,t,e⟩:=rv.get (i:=i) (x:=V.int ns[i]) (by rw[ag,hn];rfl)
 rw[vz]at hu
 cases hu
 subst e
 have hg:(ns.map fun k=>k !=0).getD i false=(ns[i] !=0):=by rw[af,ag,hn];rfl
 have Jk:Q ((ns.map fun k=>k !=0).getD i false) s:=hq
 rw[hg]at Jk
 exact truthy_int Jk
theorem ES: ∀{xs:List V}{us:List Value},xs.length=us.length→(∀(i:Nat)(x:V)(u:Value),xs[i]? =some x→us[i]? =some u→RelV x u)→Vals xs us
 |[],[],_,_=>.nil
 |x::xs,u::us,hl,h=>.cons (h 0 x u rfl rfl) (ES (by simpa using hl) fun i x' u' hx hu=>h (i+1) x' u' hx hu)
 |[],_::_,hl,_=>by simp at hl
 |_::_,[],hl,_=>by simp at hl
def Uw(K:W.Frag):List V→Hp→VK→Prop:=fun vs H Q=>∃(a:Addr)(ns:List Int),vs=[V.ref a]∧cy K H a (ns.map V.int)∧Q (.bl (ns.any fun k=>k !=0)) H
theorem ET(hc:X.calm=true):jI X (.builtin "any") (Uw X.K):=by
 intro pins s σ H vs us Q I r h
 obtain⟨a,ns,rfl,hs,q⟩:=h
 obtain⟨cw,rv,hl,_⟩:=I.list hs
 rw[Vals.zY r]
 have hb:=rv.ints
 refine call_any_walk (Bz hl.isList fun s₂ e2 st df=>?_)
 subst e2
 refine⟨_,_,_,_,_,_,_,rfl,Walks.list (A:=X.A.in1) (I.ok.hd hc) _ a df cw.toArray,st,Dx rv,fun h' tk hk=>?_⟩
 refine⟨.bl _,H,I.kept fun b o eo=>hk b o (fun i8=>?_) (aw _ eo),?_,q⟩
 ·rcases aH.mp i8 with e1|i8
  ·exact absurd (e1▸aS eo) (eh _)
  ·cases i8
 ·show Value.bool _=Value.bool _
  have e3:=any_range (ns.map fun k=>k !=0)
  rw[ae]at e3
  rw[aV,hb.length,e3,List.any_map]
  rfl
theorem pP:jI X (.type "range") (fun vs H Q=>∃j:Int,vs=[.int j]∧∀p,H p=none→Q (.ref p) (upd H p (.AH 0 j))):=by
 intro pins s σ H vs us Q I r h
 obtain⟨j,rfl,q⟩:=h
 cases r with
 |cons r rr=>
  cases rr
  obtain⟨t,rfl⟩:=r
  refine call_range_1 ⟨.ref _,_,I.laid (o:=.AH 0 j) (fun b o e=>aw _ e) (aq _) ⟨_,_,_,aZ _ rfl⟩,rfl,q _ (I.eZ.fresh (aq _))⟩
theorem lF(hc:X.calm=true):jI X (.type "list") (fun vs H Q=>∃(p:Addr)(lo hi:Int),vs=[.ref p]∧H p=some (.AH lo hi)∧0≤lo∧lo≤hi∧hi≤10000∧∀l,H l=none→Q (.ref l) (upd H l (.lst (((List.range (hi-lo).toNat).map fun i=>V.int (lo+(i:Nat))))))):=by
 intro pins s σ H vs us Q I r h
 obtain⟨p,lo,hi,rfl,hp,h0,h1,h2,q⟩:=h
 rw[Vals.zY r]
 obtain⟨t,u,v,ho⟩:=I.eZ p _ hp
 refine call_list_range (n:=(hi-lo).toNat) (I.ok.hd hc) ho (small_one (by omega) (by omega) (by omega) (by omega)) (rangeSize_nat _ _) (by omega) fun h' tk YC c' kp e it=>?_
 refine⟨.ref s.heap.objs.size,_,I.laid (t':=tk) kp (aq _) (show iD X.prog X.w _ h' _ (.lst ((List.range (hi-lo).toNat).map fun i=>V.int (lo+(i:Nat))))from⟨?_,YC.toList,c',?_,?_⟩),rfl,q _ (I.eZ.fresh (aq _))⟩
 ·rw[ae,bh]
  have:=bD
  omega
 ·refine ES (by rw[ae,bh,bS,it.1]) fun i x u hx hu=>?_
  obtain⟨k,hk,rfl⟩:=er hx
  have JB:k=i:=by
   obtain⟨h5,h6⟩:=aJ.mp hk
   rw[cM]at h6
   exact h6.symm
  subst JB
  obtain⟨t',e'⟩:=it.2 k u (by simpa using hu)
  refine⟨t',?_⟩
  rw[e',Int.mul_one]
 ·simpa using e
def MN(K:W.Frag):V→List V→Hp→VK→Prop:=fun x xs H Q=>∃(a:Addr)(ns:List Int)(k:Int),x=V.ref a∧xs=[.int k]∧cy K H a (ns.map V.int)∧Q (.int (ns.count k:Nat)) H
theorem yD:We X "list.count" (MN X.K):=by
 intro pins s σ H x xs v us Q I rx X9 h
 obtain⟨a,ns,k,rfl,rfl,hs,q⟩:=h
 cases rx
 cases X9 with
 |cons ry rt=>
  cases rt
  obtain⟨t,rfl⟩:=ry
  obtain⟨cw,rv,hl,_⟩:=I.list hs
  exact count_list_ints hl.isList rv.ints ⟨.int _,H,I.tok _,⟨_,rfl⟩,q⟩
theorem o5: ∀ns ms:List Int,PyData.eqvAll (ns.map PyData.int) (ms.map PyData.int)=decide (ns=ms)
 |[],[]=>by simp[PyData.eqvAll]
 |[],_::_=>by simp[PyData.eqvAll]
 |_::_,[]=>by simp[PyData.eqvAll]
 |n::ns,m::ms=>by
  rw[a6,a6,PyData.eqvAll,o5 ns ms,PyData.eqv]
  by_cases e1:n=m<;>by_cases e2:ns=ms<;>simp[e1,e2]
theorem lay_ints: ∀ns:List Int,PyData.canLayAll0 (ns.map PyData.int)=true
 |[]=>rfl
 |n::ns=>by
  rw[a6,PyData.canLayAll0,lay_ints ns]
  rfl
theorem yE: ∀ns:List Int,PyData.depthAll (ns.map PyData.int)=0
 |[]=>rfl
 |n::ns=>by
  rw[a6,PyData.depthAll,yE ns]
  rfl
theorem shaped_ints(ns:List Int):SeqAt.shaped (.list (ns.map PyData.int))=true:=by
 unfold SeqAt.shaped
 rw[PyData.canLay0,lay_ints,PyData.depth,yE]
 rfl
theorem kL{K:W.Frag}{H:Hp}: ∀ns:List Int,wC K H (ns.map V.int) (ns.map PyData.int)
 |[]=>.nil
 |n::ns=>.cons (.int n) (kL ns)
def YD(K:W.Frag):R2:=fun x y H Q=>∃(a b:Addr)(ns ms:List Int),x=.ref a∧y=.ref b∧cy K H a (ns.map V.int)∧cy K H b (ms.map V.int)∧Q (.bl (decide (ns=ms))) H
def YE(K:W.Frag):R2:=fun x y H Q=>∃(a b:Addr)(ns ms:List Int),x=.ref a∧y=.ref b∧cy K H a (ns.map V.int)∧cy K H b (ms.map V.int)∧Q (.bl (!decide (ns=ms))) H
theorem JH(hu:X.A.units+64<cLine):rM X (compareOp .Eq) (YD X.K):=by
 intro pins s σ H x y v u Q I rx ry h
 obtain⟨a,b,ns,ms,rfl,rfl,h1,h2,q⟩:=h
 refine QA hu pins s σ H _ _ v u Q I rx ry ⟨_,_,.lst h1 (kL ns),.lst h2 (kL ms),shaped_ints ns,shaped_ints ms,?_⟩
 rw[PyData.eqv,o5]
 exact q
theorem QN(hu:X.A.units+64<cLine):rM X (compareOp .NotEq) (YE X.K):=by
 intro pins s σ H x y v u Q I rx ry h
 obtain⟨a,b,ns,ms,rfl,rfl,h1,h2,q⟩:=h
 refine QB hu pins s σ H _ _ v u Q I rx ry ⟨_,_,.lst h1 (kL ns),.lst h2 (kL ms),shaped_ints ns,shaped_ints ms,?_⟩
 rw[PyData.eqv,o5]
 exact q
end
end GT
end
section
namespace GT
open PySem PySem.Spec PyProof.Rows L2
abbrev Ux(J:It)(g:TG)(tt:TT)(te:TE)(vs:List Nat)(σ:L2.St)(H1:Hp)(D:Addr)(Qd:Hp→Prop):Prop:=
 ∃W:Nat→Nat→Hp→Prop,(∃m,W 0 m (upd H1 D (.lst [])))∧∀i m H,W i m H→
   (J.stop i H∧Qd H)∨(J.go i H∧∃Nx:Hp→Prop,(∀H',Nx H'→∃m',m'<m∧W (i+1) m' H')∧∀x H',J.uu i H x H'→g x (wipe σ vs) H' fun σ2 H2=>wipe σ2 vs=wipe σ vs∧tt σ2 H2 fun b H3=>
    if b=true then te σ2 H3 fun y H4=>∃acc,H4 D=some (.lst acc)∧acc.length<sizeLine∧Nx (upd H4 D (.lst (acc++[y])))else Nx H3)
structure Src(J:It)(H1:Hp)(n:Nat)(Item:Nat→V→Hp→Prop):Prop where
 go: ∀i H,a0 H1 H→i<n→J.go i H
 stop: ∀H,a0 H1 H→J.stop n H
 uu: ∀i H x H',a0 H1 H→i<n→J.uu i H x H'→a0 H H'∧Item i x H'
theorem a0.fO{H1 H:Hp}{D:Addr}{o:HO}(hD:H1 D=none)(e:a0 H1 H):a0 H1 (upd H D o):=fun b u hb=>by
 have df:b≠D:=aK hb hD
 rw[aE df]
 exact e b u hb
theorem Dy{J:It}{g:TG}{tt:TT}{te:TE}{vs:List Nat}{σ:L2.St}{H1:Hp}{D:Addr}{Qd:Hp→Prop}{n:Nat}{Item:Nat→V→Hp→Prop}(S:Src J H1 n Item)(hn:n≤100000)(hD:H1 D=none)
  (Pv:Nat→List V→Hp→Prop)(P0:Pv 0 [] (upd H1 D (.lst [])))
  (hs: ∀(i:Nat)(x:V)(H':Hp)(acc:List V)(Nx:Hp→Prop),i<n→a0 H1 H'→H' D=some (.lst acc)→acc.length=i→Pv i acc H'→Item i x H'→(∀y H4,H4 D=some (.lst acc)→a0 H1 H4→Pv (i+1) (acc++[y]) (upd H4 D (.lst (acc++[y])))→Nx (upd H4 D (.lst (acc++[y]))))→
   g x (wipe σ vs) H' fun σ2 H2=>wipe σ2 vs=wipe σ vs∧tt σ2 H2 fun b H3=>if b=true then te σ2 H3 fun y H4=>∃acc,H4 D=some (.lst acc)∧acc.length<sizeLine∧Nx (upd H4 D (.lst (acc++[y])))else Nx H3)
  (keep: ∀i acc H H',a0 H H'→Pv i acc H→Pv i acc H')
  (hd: ∀H ys,a0 H1 H→H D=some (.lst ys)→ys.length=n→Pv n ys H→Qd H):Ux J g tt te vs σ H1 D Qd:=by
 refine⟨fun i m H=>m=n-i∧i≤n∧a0 H1 H∧∃acc,H D=some (.lst acc)∧acc.length=i∧Pv i acc H,⟨n,by simp,bB _,bq hD,[],au,rfl,P0⟩,?_⟩
 rintro i m H ⟨rfl,hi,e,acc,ha,hl,p⟩
 by_cases eI:i<n
 ·refine .inr ⟨S.go i H e eI,fun H'=>i+1≤n∧a0 H1 H'∧∃acc,H' D=some (.lst acc)∧acc.length=i+1∧Pv (i+1) acc H',fun H' p'=>⟨n-(i+1),by omega,rfl,p'⟩,fun x H' y=>?_⟩
  obtain⟨e1,it⟩:=S.uu i H x H' e eI y
  refine hs i x H' acc _ eI (e.trans e1) (e1 _ _ ha) hl (keep _ _ _ _ e1 p) it fun y H4 h4 e4 p4=>⟨eI,a0.fO hD e4,acc++[y],au,?_,p4⟩
  rw[bC,hl]
  rfl
 ·have tW:i=n:=by omega
  subst tW
  exact .inl ⟨S.stop H e,hd H acc e ha hl p⟩
theorem eg{J:It}{g:TG}{te:TE}{vs:List Nat}{σ:L2.St}{H1:Hp}{D:Addr}{Qd:Hp→Prop}{n:Nat}{Item:Nat→V→Hp→Prop}(S:Src J H1 n Item)(hn:n≤100000)(hD:H1 D=none)(out:List V)(pY:out.length=n)
  (hs: ∀(i:Nat)(x:V)(H':Hp)(Z:V→Hp→Prop),i<n→a0 H1 H'→Item i x H'→(∀y H4,a0 H' H4→out[i]? =some y→Z y H4)→
   g x (wipe σ vs) H' fun σ2 H2=>wipe σ2 vs=wipe σ vs∧te σ2 H2 Z)
  (hd: ∀H,a0 H1 H→H D=some (.lst out)→Qd H):Ux J g MG te vs σ H1 D Qd:=by
 refine Dy S hn hD (fun i acc _=>acc=out.take i) rfl (fun i x H' acc Nx hi e ha hl p it nx=>?_) (fun _ _ _ _ _ p=>p) fun H ys e hy hl p=>?_
 ·refine hs i x H' (fun y H4=>∃acc,H4 D=some (.lst acc)∧acc.length<sizeLine∧Nx (upd H4 D (.lst (acc++[y])))) hi e it fun y H4 e4 ho=>?_
  refine⟨acc,e4 _ _ ha,by rw[hl];have:=bD;omega,nx y H4 (e4 _ _ ha) (e.trans e4) ?_⟩
  show acc++[y]=out.take (i+1)
  rw[List.take_add_one,ho,p]
  rfl
 ·subst p
  rw[←pY,gL]at hy
  exact hd H e hy
theorem MO{K:W.Frag}{J:It}{g:TG}{te:TE}{vs:List Nat}{σ:L2.St}{H1:Hp}{D:Addr}{Qd:Hp→Prop}{n:Nat}{Item:Nat→V→Hp→Prop}(S:Src J H1 n Item)(hn:n≤100000)(hD:H1 D=none)(out:List (List Int))(pY:out.length=n)
  (hs: ∀(i:Nat)(x:V)(H':Hp)(Z:V→Hp→Prop),i<n→a0 H1 H'→Item i x H'→(∀(p:Addr)(r:List Int)(H4:Hp),a0 H' H4→H' p=none→out[i]? =some r→H4 p=some (.lst (r.map V.int))→Z (.ref p) H4)→
   g x (wipe σ vs) H' fun σ2 H2=>wipe σ2 vs=wipe σ vs∧te σ2 H2 Z)
  (hd: ∀H as,a0 H1 H→H D=some (.lst (as.map V.ref))→eA K H as out→Qd H):Ux J g MG te vs σ H1 D Qd:=by
 refine Dy S hn hD (fun i acc H=>∃as:List Addr,acc=as.map V.ref∧(∀b∈as,b≠D)∧as.length=i∧∀(j:Nat)(b:Addr),as[j]? =some b→∃r,out[j]? =some r∧H b=some (.lst (r.map V.int))) ⟨[],rfl,by simp,rfl,by simp⟩
  (fun i x H' acc Nx hi e ha hl p it nx=>?_) (fun _ _ _ _ e p=>?_) fun H ys e hy hl p=>?_
 ·obtain⟨as,rfl,df,Dz,xH⟩:=p
  refine hs i x H' (fun y H4=>∃acc,H4 D=some (.lst acc)∧acc.length<sizeLine∧Nx (upd H4 D (.lst (acc++[y])))) hi e it fun q r H4 e4 hq ho h4=>?_
  refine⟨_,e4 _ _ ha,by rw[hl];have:=bD;omega,nx _ H4 (e4 _ _ ha) (e.trans e4) ⟨as++[q],by rw[bo];rfl,?_,by rw[bC,Dz];rfl,?_⟩⟩
  ·intro b hb
   rcases bP.mp hb with hb|hb
   ·exact df b hb
   ·rw[aQ]at hb
    subst hb
    exact fun e'=>(aK ha hq) e'.symm
  ·intro j b hj
   by_cases Jz:j<as.length
   ·rw[dE Jz]at hj
    obtain⟨r',h5,h6⟩:=xH j b hj
    refine⟨r',h5,?_⟩
    rw[aE (df b (aL hj))]
    exact e4 _ _ h6
   ·rw[jb (by omega)]at hj
    have RY:j-as.length=0:=by
     have:=(aJ.mp hj).1
     simp at this
     omega
    rw[RY]at hj
    have DA:q=b:=by simpa using hj
    subst DA
    refine⟨r,?_,?_⟩
    ·rw[show j=i by omega];exact ho
    ·rw[aE (fun e'=>(aK ha hq) e'.symm)]
     exact h4
 ·obtain⟨as,h1,h2,h3,h4⟩:=p
  refine⟨as,h1,h2,h3,fun j b hj=>?_⟩
  obtain⟨r,h5,h6⟩:=h4 j b hj
  exact⟨r,h5,e _ _ h6⟩
 ·obtain⟨as,rfl,df,Dz,xH⟩:=p
  refine hd H as e hy ?_
  have key: ∀(as:List Addr)(rs:List (List Int)),as.length=rs.length→(∀(j:Nat)(b:Addr),as[j]? =some b→∃r,rs[j]? =some r∧H b=some (.lst (r.map V.int)))→eA K H as rs:=by
   intro as
   induction as with
   |nil=>
    intro rs hl _
    cases rs with
    |nil=>trivial
    |cons r rs=>simp at hl
   |cons b as ih=>
    intro rs hl h
    cases rs with
    |nil=>simp at hl
    |cons r rs=>
     obtain⟨r',h5,h6⟩:=h 0 b rfl
     cases h5
     exact⟨cy.of h6,ih rs (by simpa using hl) fun j b' hj=>h (j+1) b' hj⟩
  exact key as out (by rw[Dz,pY]) xH
theorem iG{K:W.Frag}{a:Addr}{xs:List V}{H1:Hp}(h:cy K H1 a xs):Src (Lv K a) H1 xs.length (fun i x _=>xs[i]? =some x) where
 go:=fun i H e hi=>⟨xs,xs[i],e.seq h,by simp[hi]⟩
 stop:=fun H e=>⟨xs,e.seq h,aq _⟩
 uu:=fun i H x H' e hi y=>by
  obtain⟨e1,y⟩:=y
  subst e1
  exact⟨a0.refl,y xs (e.seq h)⟩
theorem pk{lo:Int}{n:Nat}{H1:Hp}:Src (Ml lo n) H1 n (fun i x _=>x=.int (lo+i)) where
 go:=fun i H e hi=>hi
 stop:=fun H e=>aq _
 uu:=fun i H x H' e hi y=>by
  obtain⟨e1,y⟩:=y
  subst e1
  exact⟨a0.refl,y⟩
theorem rX{K:W.Frag}{a:Addr}{xs:List V}{H1:Hp}(h:cy K H1 a xs):Src (Wg K a) H1 xs.length (fun i v H'=>∃T x,v=.ref T∧xs[i]? =some x∧H' T=some (.tup [.int (i:Nat),x])) where
 go:=fun i H e hi=>⟨xs,xs[i],e.seq h,by simp[hi]⟩
 stop:=fun H e=>⟨xs,e.seq h,aq _⟩
 uu:=fun i H x H' e hi y=>by
  obtain⟨T,z,rfl,hT,rfl,y⟩:=y
  exact⟨bq hT,T,z,rfl,y xs (e.seq h),au⟩
theorem EU{K:W.Frag}{a b:Addr}{xs ys:List V}{H1:Hp}(h:cy K H1 a xs)(h':cy K H1 b ys)(hl:xs.length=ys.length):Src (Wh K a b) H1 xs.length (fun i v H'=>∃T x y,v=.ref T∧xs[i]? =some x∧ys[i]? =some y∧H' T=some (.tup [x,y])) where
 go:=fun i H e hi=>⟨xs,ys,xs[i],ys[i],e.seq h,e.seq h',by simp[hi],by simp[show i<ys.length by omega]⟩
 stop:=fun H e=>⟨xs,ys,e.seq h,e.seq h',.inl (aq _)⟩
 uu:=fun i H x H' e hi y=>by
  obtain⟨T,z,z',rfl,hT,rfl,y1,y2⟩:=y
  exact⟨bq hT,T,z,z',rfl,y1 xs (e.seq h),y2 ys (e.seq h'),au⟩
abbrev Uy(J:It)(g:TG)(tb:TS)(D:Ends)(σ:L2.St)(H:Hp):Prop:=
 ∃W:Nat→Nat→L2.St→Hp→Prop,(∃m,W 0 m σ H)∧∀i m σ H,W i m σ H→
   (J.stop i H∧D.nx σ H)∨(J.go i H∧∃N:L2.St→Hp→Prop,(∀σ' H',N σ' H'→∃m',m'<m∧W (i+1) m' σ' H')∧∀x H',J.uu i H x H'→g x σ H' fun σ2 H2=>tb {D with nx:=N,ct:=N,bk:=D.nx} σ2 H2)
theorem EV{J:It}{g:TG}{tb:TS}{D:Ends}{σ:L2.St}{H1:Hp}{n:Nat}{Item:Nat→V→Hp→Prop}(S:Src J H1 n Item)(Pv:Nat→L2.St→Hp→Prop)(h0:Pv 0 σ H1)(hk: ∀i σ H,Pv i σ H→a0 H1 H)
  (hs: ∀i x σ H H',i<n→Pv i σ H→a0 H H'→Item i x H'→g x σ H' fun σ2 H2=>tb {D with nx:=Pv (i+1),ct:=Pv (i+1),bk:=D.nx} σ2 H2)(hd: ∀σ H,Pv n σ H→D.nx σ H):Uy J g tb D σ H1:=by
 refine⟨fun i m σ H=>m=n-i∧i≤n∧Pv i σ H,⟨n,by simp,bB _,h0⟩,?_⟩
 rintro i m σ H ⟨rfl,hi,p⟩
 by_cases eI:i<n
 ·refine .inr ⟨S.go i H (hk _ _ _ p) eI,Pv (i+1),fun σ' H' p'=>⟨n-(i+1),by omega,rfl,eI,p'⟩,fun x H' y=>?_⟩
  obtain⟨e1,it⟩:=S.uu i H x H' (hk _ _ _ p) eI y
  exact hs i x σ H H' eI p e1 it
 ·have e:i=n:=by omega
  subst e
  exact .inl ⟨S.stop H (hk _ _ _ p),hd σ H p⟩
end GT
end
section
namespace GT
open PySem PySem.Spec PyProof.Rows L2
section
variable{P:Program}{w:World}{K:W.Frag}{mg:Str→Option Value}{base:Heap}
def Uz:Option Nat→V
 |some k=>.int (k:Nat)
 |none=>.fC
theorem GH{n:Int}{i:Nat}(hi:i<64)(h:((((i+1)*(i+1):Nat)):Int)=n)(kd: ∀j,j<i→¬((((j+1)*(j+1):Nat)):Int)=n):Rd01.sideOf n=some (i+1):=by
 unfold Rd01.sideOf
 rw[List.find?_eq_some_iff_getElem]
 refine⟨by simpa using h,i,by simpa[Rd01.MOST]using hi,by simp,fun j hj=>?_⟩
 have:=kd j hj
 simpa using this
theorem GI{n:Int}(kd: ∀j,j<64→¬((((j+1)*(j+1):Nat)):Int)=n):Rd01.sideOf n=none:=by
 unfold Rd01.sideOf
 rw[List.find?_eq_none]
 intro x hx
 obtain⟨j,hj,rfl⟩:=ay.mp hx
 have:=kd j (by simpa[Rd01.MOST]using hj)
 simpa using this
def JI:Sp:=fun vs H Q _=>∃n:Int,vs=[.int n]∧Q (Uz (Rd01.sideOf n)) H
theorem EW:bf ["number","root"] ["number"] (aB lS):=⟨rfl,rfl,rfl,by decide +kernel,rfl,by decide +kernel,by decide +kernel⟩
theorem MP{f:Addr}{fd:FuncData}{t:Tok}(F:f6 K "square_root" "square_root" lS f fd)(T:Txt mg)(hM:mg "MOST_THINGS"=some (.int 64 t)):cF P w K mg base fT 1 f fd ["number"] JI:=by
 refine F.ok EW (fun vs H Q E h=>?_) (fun eM A outer s H vs Q E hr h=>?_)
 ·obtain⟨n,rfl,_⟩:=h
  rfl
 ·obtain⟨n,rfl,k⟩:=h
  refine⟨_,ak (gc bx rfl (sW rfl T.range (ah bG (ah (dF kF (dC (v:=.int 64) rfl hM ⟨_,rfl⟩) bG) ax))) (bE (i:=1) EW.nd rfl (Or.inl rfl))
   (aA (dR (cJ iE (dF jm (pv 1) (pv 1)) (pv 0) (cW _)) (aA (a9 (pv 1))) cq)))
   (aA (a9 sU)),?_⟩
  refine⟨_,_,rfl,rfl,1,65,rfl,⟨by decide,by decide,by decide,by decide⟩,Gj (lo:=1) (n:=64) (fun i σ H'=>∃v:Option V,σ=[some (.int n),v]∧H'=H∧∀j,j<i→¬((((j+1)*(j+1):Nat)):Int)=n)
   ⟨none,rfl,rfl,fun j hj=>absurd hj (cY _)⟩ ?_ ?_⟩
  ·rintro i σ H' hi ⟨v,rfl,rfl,kd⟩
   refine⟨_,rfl,_,rfl,_,_,rfl,rfl,.inl ⟨by omega,by omega⟩,_,rfl,rfl,_,rfl,?_⟩
   have ec:((1:Int)+i)*(1+i)=(((i+1)*(i+1):Nat):Int):=by push_cast;rw[Int.add_comm]
   refine gA (fun he=>?_) (fun df=>?_)
   ·have C2:V.int ((1+(i:Int))*(1+i))=V.int n:=of_decide_eq_true he
    injection C2 with C2
    rw[ec]at C2
    rw[GH hi C2 kd]at k
    refine⟨_,rfl,?_⟩
    have e2:Uz (some (i+1))=V.int (1+(i:Int)):=by
     show V.int ((i+1:Nat):Int)=_
     congr 1
     push_cast
     exact Int.add_comm _ _
    rw[e2]at k
    exact k
   ·refine⟨_,rfl,rfl,fun j hj=>?_⟩
    by_cases QM:j=i
    ·subst QM
     intro e
     apply df
     rw[←e,←ec]
     exact decide_eq_true rfl
    ·exact kd j (by omega)
  ·rintro σ H' ⟨v,rfl,rfl,kd⟩
   rw[GI kd]at k
   exact k
end
end GT
end
section
namespace GT
open PySem PySem.Spec PyProof.Rows L2
section
variable{P:Program}{w:World}{K:W.Frag}{mg:Str→Option Value}{base:Heap}
def kM(n:Nat):List Int:=(List.range n).map fun i=>((i:Nat):Int)
def kO(rs:List (List Int)):List Int:=rs.map fun r=>r.getD 0 0
def jJ(rs:List (List Int)):Bool:=decide (rs.getD 0 []=kM rs.length)&&decide (kO rs=kM rs.length)
structure YF(rs:List (List Int)):Prop where
 pos:0<rs.length
 small:rs.length≤64
 len: ∀r∈rs,r.length=rs.length
theorem gh{α:Type}{l:List α}{i:Nat}{x:α}(h:l[i]? =some x):l.take (i+1)=l.take i++[x]:=by
 obtain⟨hi,e⟩:=aJ.mp h
 rw[List.take_add_one,h]
 rfl
def yF(K:W.Frag):Sp:=fun vs H Q _=>∃(v:V)(rs:List (List Int)),vs=[v]∧TL K H v rs∧YF rs∧∀H',a0 H H'→Q (.bl (jJ rs)) H'
theorem nj:bf ["products","things","row"] ["products"] (aB fI):=⟨rfl,rfl,rfl,by decide +kernel,rfl,by decide +kernel,by decide +kernel⟩
theorem DB{f:Addr}{fd:FuncData}(F:f6 K "has_neutral_zero" "has_neutral_zero" fI f fd)(T:Txt mg):cF P w K mg base fT 1 f fd ["products"] (yF K):=by
 refine F.ok nj (fun vs H Q E h=>?_) (fun eM A outer s H vs Q E hr h=>?_)
 ·obtain⟨v,rs,rfl,_⟩:=h
  rfl
 ·obtain⟨v,rs,rfl,⟨a,as,rfl,ha,kf⟩,hq,k⟩:=h
  refine⟨_,ak (bI (i:=1) nj.nd rfl (Or.inl rfl) (fR (lF rfl) (by rfl) T.list boot_list (ah (fR pP (by rfl) T.range HC (ah (bZ bN (by rfl) T.len bK (ah (pv 0) ax)) ax)) ax)))
   (aA (a9 (Qe (rN (JH hr.units) (cK bH (pv 0) bG (fun _ _=>rfl)) (pv 1) (cW _))
    (Qc (rN (JH hr.units) (je rfl nj.nd (d8 (pv 0)) (own:=[("row",2)]) (cB (by show ij ["products","things","row"] (aB fI) _ _=true;decide +kernel)) (fun s H C cl fp=>bE (i:=2) nj.nd rfl (Or.inl rfl)) (fun s H C cl fp=>cZ)
     (fun s H C cl fp=>cK (show EF _ (mj K)from bH) (pv 2) bG (fun _ _=>rfl))) (pv 1) (cW _)))))),?_⟩
  have hlen:as.length=rs.length:=kf.len
  refine⟨_,rfl,a,_,rfl,.inl ha,_,rfl,fun p hp=>?_⟩
  have oj:(as.map V.ref).length=rs.length:=by rw[ae,hlen]
  have YG:=hq.small
  refine⟨p,0,_,rfl,au,kr 0,p6 _,by rw[oj];omega,fun l hl=>?_⟩
  have s1:a0 H (upd H p (.AH 0 ((as.map V.ref).length:Nat))):=bq hp
  have s2:a0 (upd H p (.AH 0 ((as.map V.ref).length:Nat))) _:=bq (o:=.lst (((List.range ((((as.map V.ref).length:Nat):Int)-0).toNat)).map fun i=>V.int (0+(i:Nat)))) hl
  have YH:upd (upd H p (.AH 0 ((as.map V.ref).length:Nat))) l (.lst (((List.range ((((as.map V.ref).length:Nat):Int)-0).toNat)).map fun i=>V.int (0+(i:Nat)))) l=some (.lst ((kM rs.length).map V.int)):=by
   rw[au,oj,kM,aU]
   congr 2
   rw[show(((rs.length:Nat):Int)-0).toNat=rs.length by omega]
   apply bM
   intro i _
   show V.int (0+(i:Int))=V.int (i:Int)
   rw[fj]
  have s3:=s1.trans s2
  generalize upd (upd H p (.AH 0 ((as.map V.ref).length:Nat))) l (.lst (((List.range ((((as.map V.ref).length:Nat):Int)-0).toNat)).map fun i=>V.int (0+(i:Nat))))=H2 at YH s3
  obtain⟨b0,Iq⟩: ∃b0,as[0]? =some b0:=⟨_,aj (by have:=hq.pos;omega)⟩
  obtain⟨r0,QO,EX⟩:=kf.at_ Iq
  have hg0:rs.getD 0 []=r0:=by rw[af,QO];rfl
  refine⟨_,rfl,a,_,_,_,rfl,rfl,s3.seq ha,at_of (j:=0) (v:=V.ref b0) rfl (by rw[ag,Iq];rfl),_,rfl,b0,l,r0,kM rs.length,rfl,rfl,s3.seq EX,cy.of YH,_,rfl,?_⟩
  refine gA (fun h1=>?_) (fun h1=>?_)
  ·refine⟨_,rfl,a,rfl,⟨_,s3.seq ha⟩,fun D hD=>MH (K:=K) (a:=a) (xs:=as.map V.ref) (fun i H'=>a0 H2 H'∧H' D=some (.lst ((kO (rs.take i)).map V.int)))
    ⟨bq hD,au⟩ (fun i H' _⟨e,_⟩=>(s3.trans e).seq ha) ?_ ?_⟩
   ·rintro i x H' hx ⟨e,rY⟩
    obtain⟨b,hb,rfl⟩:=er hx
    obtain⟨r,iF,i9⟩:=kf.at_ hb
    have kZ:0<r.length:=by rw[hq.len r (aL iF)];exact hq.pos
    have Pg:(r.map V.int)[0]? =some (V.int (r.getD 0 0)):=by rw[ag,af,aj kZ];rfl
    refine⟨rfl,_,rfl,b,_,_,_,rfl,rfl,(s3.trans e).seq i9,at_of (j:=0) rfl Pg,_,rY,?_,?_,?_⟩
    ·rw[ae,kO,ae,cT]
     have:=bD
     omega
    ·exact fun c o hc=>by
      by_cases Sb:c=D
      ·subst Sb
       rw[hD]at hc
       cases hc
      ·rw[aE Sb];exact e c o hc
    ·rw[au,kO,kO,gh iF,bo,bo]
     rfl
   ·rintro H' ⟨e,rY⟩
    have BK:rs.take (as.map V.ref).length=rs:=by rw[oj,gL]
    rw[BK]at rY
    refine⟨_,rfl,D,l,kO rs,kM rs.length,rfl,rfl,cy.of rY,cy.of (e _ _ YH),?_⟩
    have hv:jJ rs=decide (kO rs=kM rs.length):=by
     unfold jJ
     rw[hg0,h1,Bool.true_and]
    rw[←hv]
    exact k _ (s3.trans e)
  ·have hv:jJ rs=false:=by
    unfold jJ
    rw[hg0]
    cases e:decide (r0=kM rs.length)with
    |true=>exact absurd e h1
    |false=>rfl
   rw[hv]at k
   exact k _ s3
def QP(rs:List (List Int)):Bool:=rs.all fun r=>r.any fun y=>y==0
theorem BL(k:Int)(r:List Int):Sf (.int k) (r.map V.int)=r.any fun y=>y==k:=by
 unfold Sf
 rw[List.any_map]
 congr 1
theorem tw(r:List Int):(r.map V.int).all ml=true:=by
 rw[List.all_map]
 exact aW.mpr fun x _=>rfl
def Oz(K:W.Frag):Sp:=fun vs H Q _=>∃(v:V)(rs:List (List Int)),vs=[v]∧TL K H v rs∧rs.length≤1000∧∀H',a0 H H'→Q (.bl (QP rs)) H'
theorem DC:bf ["products","row"] ["products"] (aB iV):=⟨rfl,rfl,rfl,by decide +kernel,rfl,by decide +kernel,by decide +kernel⟩
theorem QQ{f:Addr}{fd:FuncData}(F:f6 K "has_inverses" "has_inverses" iV f fd)(T:Txt mg):cF P w K mg base fT 1 f fd ["products"] (Oz K):=by
 refine F.ok DC (fun vs H Q E h=>?_) (fun eM A outer s H vs Q E hr h=>?_)
 ·obtain⟨v,rs,rfl,_⟩:=h
  rfl
 ·obtain⟨v,rs,rfl,⟨a,as,rfl,ha,kf⟩,hq,k⟩:=h
  refine⟨_,aA (a9 (bZ (Qz rfl) (by rfl) T.all GD (ah (je rfl DC.nd (d8 (pv 0)) (own:=[("row",1)]) (cB (by show ij ["products","row"] (aB iV) _ _=true;decide +kernel))
   (fun s H C cl fp=>bE (i:=1) DC.nd rfl (Or.inl rfl)) (fun s H C cl fp=>cZ)
   (fun s H C cl fp=>rN (show rM _ _ (XY K false)from yu) bG (pv 1) (by with_unfolding_all rfl))) ax))),?_⟩
  have hlen:as.length=rs.length:=kf.len
  refine⟨_,rfl,a,rfl,⟨_,ha⟩,fun D hD=>eg (iG ha) (by rw[ae,hlen];omega) hD ((rs.map fun r=>r.any fun y=>y==0).map V.bl) (by simp[hlen]) ?_ ?_⟩
  ·intro i x H' Z hi e it z
   obtain⟨b,hb,rfl⟩:=er it
   obtain⟨r,iF,i9⟩:=kf.at_ hb
   refine⟨rfl,_,rfl,b,_,rfl,.inl (e.seq i9),rfl,tw r,z _ _ a0.refl ?_⟩
   rw[BL,ag,ag,iF]
   rfl
  ·intro H' e rY
   refine⟨D,rs.map fun r=>r.any fun y=>y==0,rfl,cy.of rY,?_⟩
   have hv:(rs.map fun r=>r.any fun y=>y==0).all id=QP rs:=by rw[List.all_map];rfl
   rw[hv]
   exact k _ e
end
end GT
end
section
namespace GT
open PySem PySem.Spec PyProof.Rows L2
section
variable{P:Program}{w:World}{K:W.Frag}{mg:Str→Option Value}{base:Heap}
def nk(rs:List (List Int))(first:List Int)(j:Nat):Bool:=decide (rs.getD (first.getD j 0).toNat []=(rs.getD j []).map fun t=>first.getD t.toNat 0)
def BM(rs:List (List Int))(first:List Int):Bool:=(List.range first.length).all (nk rs first)
def Ah(rs:List (List Int)):Bool:=rs.all (BM rs)
theorem all_false{α:Type}{l:List α}{q:α→Bool}{x:α}(hx:x∈l)(h:q x=false):l.all q=false:=by
 cases e:l.all q with
 |false=>rfl
 |true=>
  have:=aW.mp e x hx
  rw[h]at this
  cases this
theorem yG{rs:List (List Int)}(hc:hZ rs=true){r:List Int}(hr:r∈rs){x:Int}(hx:x∈r):0≤x∧x<(rs.length:Int):=by
 have h1:=aW.mp (aW.mp hc r hr) x hx
 rw[aN,aG,aG]at h1
 exact h1
theorem eA.get{K:W.Frag}{H:Hp}{as:List Addr}{rs:List (List Int)}(h:eA K H as rs){i:Nat}(hi:i<rs.length): ∃b,as[i]? =some b∧cy K H b ((rs.getD i []).map V.int):=by
 have hl:=h.len
 obtain⟨b,hb⟩: ∃b,as[i]? =some b:=⟨_,aj (by omega)⟩
 obtain⟨r,h1,h2⟩:=h.at_ hb
 refine⟨b,hb,?_⟩
 rw[af,h1]
 exact h2
theorem sx{r:List Int}{j:Nat}(hj:j<r.length):(r.map V.int)[j]? =some (V.int (r.getD j 0)):=by
 rw[ag,af,aj hj]
 rfl
theorem toNat_cast{x:Int}(h:0≤x):x=((x.toNat:Nat):Int):=by omega
def EY(K:W.Frag):Sp:=fun vs H Q _=>∃(v:V)(rs:List (List Int)),vs=[v]∧TL K H v rs∧YF rs∧hZ rs=true∧∀H',a0 H H'→Q (.bl (Ah rs)) H'
theorem mw:bf ["products","first","second","product","thing"] ["products"] (aB gC):=⟨rfl,rfl,rfl,by decide +kernel,rfl,by decide +kernel,by decide +kernel⟩
theorem JJ{f:Addr}{fd:FuncData}(F:f6 K "is_associative" "is_associative" gC f fd)(T:Txt mg):cF P w K mg base fT 1 f fd ["products"] (EY K):=by
 refine F.ok mw (fun vs H Q E h=>?_) (fun eM A outer s H vs Q E hr h=>?_)
 ·obtain⟨v,rs,rfl,_⟩:=h
  rfl
 ·obtain⟨v,rs,rfl,⟨a,as,rfl,ha,kf⟩,hq,hc,k⟩:=h
  refine⟨_,ak (gc bx rfl (d8 (pv 0)) (bE (i:=1) mw.nd rfl (Or.inr rfl))
   (aA (gc bx rfl (rS rfl T.enum (ah (pv 1) ax)) (lQ rfl (dz (bE (i:=2) mw.nd rfl (Or.inl rfl)) (dz (bE (i:=3) mw.nd rfl (Or.inl rfl)) jy)))
    (aA (dR (cJ (QN hr.units) (cK bH (pv 0) (pv 3) (fun _ _=>rfl))
     (je rfl mw.nd (d8 (cK bH (pv 0) (pv 2) (fun _ _=>rfl))) (own:=[("thing",4)]) (cB (by show ij ["products","first","second","product","thing"] (aB gC) _ _=true;decide +kernel))
      (fun s H C cl fp=>bE (i:=4) mw.nd rfl (Or.inl rfl)) (fun s H C cl fp=>cZ)
      (fun s H C cl fp=>cK (show EF _ (mj K)from bH) (pv 1) (pv 4) (fun _ _=>rfl))) (cW _))
     (aA (a9 qc)) cq)))))
   (aA (a9 qc)),?_⟩
  have hlen:as.length=rs.length:=kf.len
  have YG:=hq.small
  refine⟨_,rfl,a,rfl,⟨_,ha⟩,EV (iG ha) (fun i σ H'=>∃v1 v2 v3 v4:Option V,σ=[some (.ref a),v1,v2,v3,v4]∧a0 H H'∧∀(j:Nat)(r:List Int),j<i→rs[j]? =some r→BM rs r=true)
   ⟨none,none,none,none,rfl,a0.refl,fun j r hj=>absurd hj (cY _)⟩ (fun i σ H'⟨_,_,_,_,_,e,_⟩=>e) ?_ ?_⟩
  ·rintro i x σ H0 H' hi ⟨v1,v2,v3,v4,rfl,e0,fq⟩ e1 it
   obtain⟨b,hb,rfl⟩:=er it
   obtain⟨r,iF,i9⟩:=kf.at_ hb
   have IE:r∈rs:=aL iF
   have kZ:=hq.len r IE
   have e2:a0 H H':=e0.trans e1
   refine⟨_,rfl,b,_,rfl,e2.seq i9,EV (rX (e2.seq i9)) (fun i' σ yH=>∃v2 v3 v4:Option V,σ=[some (.ref a),some (.ref b),v2,v3,v4]∧a0 H' yH∧∀j:Nat,j<i'→nk rs r j=true)
    ⟨v2,v3,v4,rfl,a0.refl,fun j hj=>absurd hj (cY _)⟩ (fun i σ H'⟨_,_,_,_,e,_⟩=>e) ?_ ?_⟩
   ·rintro i' y σ H3 H4 pU ⟨v2,v3,v4,rfl,e3,JK⟩ e4 YI
    obtain⟨Tt,x',rfl,xZ,hT⟩:=YI
    rw[ae]at pU
    rw[sx pU]at xZ
    cases xZ
    have e5:a0 H H4:=e2.trans (e3.trans e4)
    have lO:=yG hc IE (x:=r.getD i' 0) (by rw[af,aj pU];exact cn pU)
    obtain⟨b3,BN,UA⟩:=kf.get (i:=(r.getD i' 0).toNat) (by omega)
    obtain⟨b4,Sm,OA⟩:=kf.get (i:=i') (by omega)
    refine⟨Tt,_,rfl,.inl (.inl hT),rfl,_,_,rfl,_,_,rfl,rfl,?_⟩
    have Wk: ∀t∈rs.getD i' [],0≤t∧t<(rs.length:Int):=by
     intro t ht
     have h1:i'<rs.length:=by omega
     rw[af,aj h1]at ht
     exact yG hc (cn h1) ht
    have YJ:(rs.getD i' []).length=rs.length:=by
     have h1:i'<rs.length:=by omega
     rw[af,aj h1]
     exact hq.len _ (cn h1)
    refine⟨_,rfl,_,rfl,a,_,_,_,rfl,rfl,e5.seq ha,at_of (j:=(r.getD i' 0).toNat) (v:=V.ref b3) (toNat_cast lO.1) (by rw[ag,BN];rfl),
     _,rfl,_,rfl,a,_,_,_,rfl,rfl,e5.seq ha,at_of (j:=i') (v:=V.ref b4) rfl (by rw[ag,Sm];rfl),b4,rfl,⟨_,e5.seq OA⟩,
     fun D hD=>eg (iG (e5.seq OA)) (by rw[ae,YJ];omega) hD (((rs.getD i' []).map fun t=>r.getD t.toNat 0).map V.int) (by simp) ?_ ?_⟩
    ·intro j y H5 Z hj e6 ity z
     obtain⟨t,ht,rfl⟩:=er ity
     have htt:=Wk t (aL ht)
     refine⟨rfl,_,rfl,_,rfl,b,_,_,_,rfl,rfl,(e5.trans e6).seq i9,at_of (j:=t.toNat) (toNat_cast htt.1) (sx (by omega)),z _ _ a0.refl ?_⟩
     rw[ag,ag,ht]
     rfl
    ·intro H5 e6 rY
     refine⟨b3,D,_,_,rfl,rfl,(e5.trans e6).seq UA,cy.of rY,_,rfl,?_⟩
     refine gA (fun df=>?_) (fun heq=>?_)
     ·have hf:nk rs r i'=false:=by
       unfold nk
       cases e:decide (rs.getD (r.getD i' 0).toNat []=(rs.getD i' []).map fun t=>r.getD t.toNat 0)with
       |false=>rfl
       |true=>
        rw[e]at df
        cases df
      have hf2:Ah rs=false:=all_false IE (all_false (aD.mpr pU) hf)
      rw[hf2]at k
      exact k _ (e5.trans e6)
     ·refine⟨_,_,_,rfl,(e3.trans e4).trans e6,fun j hj=>?_⟩
      by_cases QM:j=i'
      ·subst QM
       unfold nk
       cases e:decide (rs.getD (r.getD j 0).toNat []=(rs.getD j []).map fun t=>r.getD t.toNat 0)with
       |true=>rfl
       |false=>
        rw[e]at heq
        exact absurd rfl heq
      ·exact JK j (by omega)
   ·rintro σ H3 ⟨v2,v3,v4,rfl,e3,JK⟩
    refine⟨_,_,_,_,rfl,e2.trans e3,fun j r' hj tu=>?_⟩
    by_cases QM:j=i
    ·subst QM
     rw[iF]at tu
     cases tu
     refine aW.mpr fun m hm=>JK m ?_
     rw[ae]
     exact aD.mp hm
    ·exact fq j r' (by omega) tu
  ·rintro σ H' ⟨v1,v2,v3,v4,rfl,e0,fq⟩
   have ht:Ah rs=true:=aW.mpr fun r iF=>by
    obtain⟨j,hj⟩:=d6 iF
    refine fq j r ?_ hj
    rw[ae,hlen]
    exact(aJ.mp hj).1
   rw[ht]at k
   exact k _ e0
end
end GT
end
section
namespace GT
open PySem PySem.Spec PyProof.Rows L2
def iJ(P:Program)(w:World)(K:W.Frag)(mg:Str→Option Value)(base:Heap)(k:Nat)(x:Str)(ps:List Str)(sp:Sp):Prop:=
 ∃(f:Addr)(fd:FuncData),mg x=some (.ref f)∧W.keepIn K (.ref f)=true∧Binds K fd ps []∧cF P w K mg base fT k f fd ps sp
theorem bQ{X:Cx}{k:Nat}{x:Str}{ps:List Str}{sp:Sp}{p pos:Pos}{e:Expr}{es:List Expr}{t:TA}(C:iJ X.prog X.w X.K X.mg X.base k x ps sp)(hr:dY k X.A)(hg:Gl X x)(ha:PA X (e::es) t)
  (zS:(x==("__debug__":Str))=false:=by decide)(he:starEach (e::es) X.env=(false,eval e X.env)::starEach es X.env:=by rfl)(n9:(backTo pos (starEach es X.env)).any (·.1)=false:=by rfl):
  PE X (.Call (.Name x p) (e::es) [] pos) (rO sp [] E0 t):=by
 obtain⟨f,fd,h1,h2,h3,h4⟩:=C
 exact Ms h4 hr hg h1 h2 h3 .nil yy ha zS he n9
theorem EZ{X:Cx}{k:Nat}{x:Str}{ps:List Str}{sp:Sp}{p pos:Pos}(C:iJ X.prog X.w X.K X.mg X.base k x ps sp)(hr:dY k X.A)(hg:Gl X x)
  (zS:(x==("__debug__":Str))=false:=by decide):PE X (.Call (.Name x p) [] [] pos) (rO sp [] E0 zQ):=by
 obtain⟨f,fd,h1,h2,h3,h4⟩:=C
 exact Ji h4 hr hg h1 h2 h3 .nil yy zS
section
variable{P:Program}{w:World}{K:W.Frag}{mg:Str→Option Value}{base:Heap}
def fZ(ns:List Int)(k:Nat):List (List Int):=(List.range k).map fun i=>(ns.drop (i*k)).take k
def my(rs:List (List Int)):Bool:=hZ rs&&(jJ rs&&(QP rs&&Ah rs))
def tableOf(ns:List Int):Option (List (List Int)):=match Rd01.sideOf (ns.length:Nat)with
 |none=>none
 |some k=>if my (fZ ns k)=true then some (fZ ns k)else none
def UB(K:W.Frag)(H:Hp)(v:V):Option (List (List Int))→Prop
 |none=>v=.fC
 |some rs=>TL K H v rs
theorem pQ{n:Nat}{k:Nat}(h:Rd01.sideOf (n:Nat)=some k):1≤k∧k≤64∧k*k=n:=by
 unfold Rd01.sideOf at h
 have h1:=List.find?_some h
 have h2:=List.mem_of_find?_eq_some h
 obtain⟨j,hj,rfl⟩:=ay.mp h2
 rw[aD]at hj
 have h3:(((j+1)*(j+1):Nat):Int)=(n:Nat):=eq_of_beq h1
 exact⟨by omega,by simp[Rd01.MOST]at hj;omega,by omega⟩
theorem JL{ns:List Int}{k:Nat}(h1:1≤k)(h2:k≤64)(h:k*k=ns.length):YF (fZ ns k):=by
 have hl:(fZ ns k).length=k:=by simp[fZ]
 refine⟨by omega,by omega,fun r hr=>?_⟩
 rw[hl]
 obtain⟨i,hi,rfl⟩:=ay.mp hr
 rw[aD]at hi
 rw[cT,eF,←h]
 have:(i+1)*k≤k*k:=eN k (by omega)
 rw[qN]at this
 omega
theorem Ai(xs:List V){m m':Nat}(h1:m≤m')(h2:m'≤xs.length):sY xs (some (m:Nat)) (some (m':Nat))=(xs.drop m).take (m'-m):=by
 unfold sY
 rw[HT.uM,HT.uM,u0 h2,u0 (show m≤xs.length by omega)]
def UC(K:W.Frag):Sp:=fun vs H Q _=>∃(v:V)(ns:List Int),vs=[v]∧IL K H v ns∧∀(v':V)(H':Hp),a0 H H'→UB K H' v' (tableOf ns)→Q v' H'
theorem E1:bf ["numbers","order","products","thing"] ["numbers"] (aB gB):=⟨rfl,rfl,rfl,by decide +kernel,rfl,by decide +kernel,by decide +kernel⟩
theorem UD{f:Addr}{fd:FuncData}(F:f6 K "group_products" "group_products" gB f fd)(T:Txt mg)
  (c1:iJ P w K mg base 1 "square_root" ["number"] JI)(c2:iJ P w K mg base 1 "is_closed" ["products"] (BJ K))(c3:iJ P w K mg base 1 "has_neutral_zero" ["products"] (yF K))
  (c4:iJ P w K mg base 1 "has_inverses" ["products"] (Oz K))(c5:iJ P w K mg base 1 "is_associative" ["products"] (EY K)):cF P w K mg base fT 2 f fd ["numbers"] (UC K):=by
 refine F.ok E1 (fun vs H Q E h=>?_) (fun eM A outer s H vs Q E hr h=>?_)
 ·obtain⟨v,rs,rfl,_⟩:=h
  rfl
 ·obtain⟨v,ns,rfl,⟨a,rfl,ha⟩,k⟩:=h
  refine⟨_,ak (bI (i:=1) E1.nd rfl (Or.inr rfl) (bQ c1 hr rfl (ah (bZ bN (by rfl) T.len bK (ah (pv 0) ax)) ax)))
   (ak (dR (zL (zK (pv 1))) (aA (a9 sU)) cq)
   (ak (gf rfl E1.nd (i:=2) rfl rfl (by rfl) (fQ rfl T.range (ah (pv 1) ax)) (own:=[("thing",3)]) (cB (by show ij ["numbers","order","products","thing"] (aB gB) _ _=true;decide +kernel))
    (fun s H C cl fp=>bE (i:=3) E1.nd rfl (Or.inl rfl)) (fun s H C cl fp=>cZ)
    (fun s H C cl fp=>mi (show XW _ (Uh K)from pL) (pv 0) (kj (dF jm (pv 3) (pv 1))) (kj (dF jm (dF kF (pv 3) bG) (pv 1)))))
   (ak (dR (iR (fH (bQ c2 hr rfl (ah (pv 2) ax)))) (aA (a9 sU)) cq)
   (ak (dR (PW.pt (IZ (fH (bQ c3 hr rfl (ah (pv 2) ax))) (IZ (fH (bQ c4 hr rfl (ah (pv 2) ax))) (Mg (fH (bQ c5 hr rfl (ah (pv 2) ax))))))) (aA (a9 (pv 2))) cq)
   (aA (a9 sU)))))),?_⟩
  have hl:(ns.map V.int).length=ns.length:=ae _
  refine⟨_,rfl,a,_,rfl,.inl ha,_,rfl,?_⟩
  rw[hl]
  cases hs:Rd01.sideOf (ns.length:Nat)with
  |none=>
   have ht:tableOf ns=none:=by unfold tableOf;rw[hs]
   rw[ht]at k
   exact⟨_,rfl,_,rfl,k _ _ a0.refl rfl⟩
  |some kk=>
   obtain⟨hk1,hk2,hk3⟩:=pQ hs
   have YK:=JL hk1 hk2 hk3
   have kZ:(fZ ns kk).length=kk:=by simp[fZ]
   have rZ:((kk:Nat):Int).toNat=kk:=aY kk
   refine⟨_,rfl,_,rfl,?_⟩
   refine⟨_,rfl,_,rfl,by omega,by omega,fun D hD=>MO (K:=K) pk (by rw[rZ];omega) hD (fZ ns kk) (by rw[kZ,rZ]) ?_ ?_⟩
   ·rintro i x H' Z hi e rfl z
    rw[rZ]at hi
    refine⟨rfl,_,rfl,_,rfl,_,rfl,_,_,rfl,rfl,.inl ⟨by omega,by omega⟩,_,rfl,_,rfl,_,_,rfl,rfl,_,rfl,_,_,rfl,rfl,.inl ⟨by omega,by omega⟩,_,rfl,a,_,rfl,e.seq ha,fun p hp=>z p ((ns.drop (i*kk)).take kk) _ (bq hp) hp ?_ ?_⟩
    ·rw[fZ,ag,aX hi]
     rfl
    ·rw[au]
     congr 2
     have e1:(0+(i:Int))*(kk:Int)=((i*kk:Nat):Int):=by rw[fj];push_cast;rfl
     have e2:(0+(i:Int)+1)*(kk:Int)=(((i+1)*kk:Nat):Int):=by rw[fj];push_cast;rfl
     rw[e1,e2]
     have hle:(i+1)*kk≤kk*kk:=eN kk (by omega)
     rw[Ai _ (eN kk (by omega)) (by rw[ae];omega),j3,so]
     congr 1
     rw[qN]
     omega
   ·intro H' as e rY j7
    refine⟨_,rfl,_,fZ ns kk,rfl,⟨D,as,rfl,cy.of rY,j7⟩,?_,_,rfl,?_⟩
    ·intro r hr QO
     have:=YK.len r hr
     rw[QO,kZ]at this
     simp at this
     omega
    ·have Wl:TL K H' (.ref D) (fZ ns kk):=⟨D,as,rfl,cy.of rY,j7⟩
     refine gA (fun PH=>?_) (fun lO=>?_)
     ·have ht:tableOf ns=none:=by
       unfold tableOf my
       rw[hs]
       cases LA:hZ (fZ ns kk)with
       |true=>rw[LA]at PH;cases PH
       |false=>
        show(if _ then _ else _)=_
        rw[LA]
        rfl
      rw[ht]at k
      exact k _ _ e rfl
     ·have LA:hZ (fZ ns kk)=true:=by
       cases LA:hZ (fZ ns kk)with
       |true=>rfl
       |false=>rw[LA]at lO;exact absurd rfl lO
      have fin: ∀H2(q:Bool),a0 H H2→(my (fZ ns kk)=false)→Q .fC H2:=by
       intro H2 q e2 hg
       have ht:tableOf ns=none:=by unfold tableOf;rw[hs];show(if my (fZ ns kk)=true then _ else _)=_;rw[hg];rfl
       rw[ht]at k
       exact k _ _ e2 rfl
      refine⟨_,rfl,_,fZ ns kk,rfl,Wl,YK,fun H2 e2=>⟨_,rfl,?_⟩⟩
      refine gA (fun hb=>?_) (fun hb=>?_)
      ·refine⟨_,rfl,_,fZ ns kk,rfl,Wl.same e2,by rw[kZ];omega,fun H3 e3=>⟨_,rfl,?_⟩⟩
       refine gA (fun OB=>?_) (fun OB=>?_)
       ·refine⟨_,rfl,_,fZ ns kk,rfl,(Wl.same e2).same e3,YK,LA,fun H4 e4=>⟨_,rfl,?_⟩⟩
        refine gA (fun BN=>?_) (fun BN=>?_)
        ·have ht:tableOf ns=some (fZ ns kk):=by
          unfold tableOf my
          rw[hs]
          show(if _ then _ else _)=_
          rw[LA,hb,OB,BN]
          rfl
         rw[ht]at k
         exact⟨_,rfl,k _ _ (((e.trans e2).trans e3).trans e4) (((Wl.same e2).same e3).same e4)⟩
        ·refine fin _ true (((e.trans e2).trans e3).trans e4) ?_
         unfold my
         rw[fz]at BN
         rw[BN,eO,eO,eO]
       ·refine fin _ true ((e.trans e2).trans e3) ?_
        unfold my
        rw[fz]at OB
        rw[OB,jd,eO,eO]
      ·refine fin _ true (e.trans e2) ?_
       unfold my
       rw[fz]at hb
       rw[hb,jd,eO]
end
end GT
end
section
namespace GT
open PySem PySem.Spec PyProof.Rows L2
def ie(p:Addr)(H H':Hp):Prop:=∀b o,H b=some o→b≠p→H' b=some o
theorem ie.upd{p:Addr}{H:Hp}{o:HO}:ie p H (L2.upd H p o):=fun b u e hb=>by rw[aE hb];exact e
theorem ie.trans{p:Addr}{H H1 H2:Hp}(a:ie p H H1)(b:ie p H1 H2):ie p H H2:=fun c o h hc=>b c o (a c o h hc) hc
theorem a0.but{p:Addr}{H H1:Hp}(a:a0 H H1):ie p H H1:=fun c o h _=>a c o h
theorem cy.QR{K:W.Frag}{H:Hp}{a p C dx:Addr}{fs:List (Str×V)}{xs:List V}(h:Rd H a (.lst xs))(hp:H p=some (.ins C dx fs)):a≠p:=by
 rintro rfl
 rcases h with h|⟨o,h⟩
 ·rw[hp]at h;cases h
 ·rw[hp]at h;cases h
theorem ie.seq{K:W.Frag}{H H':Hp}{p C dx:Addr}{fs:List (Str×V)}{a:Addr}{xs:List V}(e:ie p H H')(hp:H p=some (.ins C dx fs))(h:cy K H a xs):cy K H' a xs:=by
 rcases h with h|h
 ·have df:=cy.QR (K:=K) h hp
  rcases h with h|⟨o,h⟩
  ·exact .inl (.inl (e _ _ h df))
  ·exact .inl (.inr ⟨o,e _ _ h df⟩)
 ·exact .inr h
theorem ie.rows{K:W.Frag}{H H':Hp}{p C dx:Addr}{fs:List (Str×V)}(e:ie p H H')(hp:H p=some (.ins C dx fs)): ∀{as:List Addr}{rs:List (List Int)},eA K H as rs→eA K H' as rs
 |[],[],h=>h
 |a::as,r::rs,h=>⟨e.seq hp h.1,ie.rows e hp h.2⟩
 |[],_::_,h=>h.elim
 |_::_,[],h=>h.elim
theorem ie.il{K:W.Frag}{H H':Hp}{p C dx:Addr}{fs:List (Str×V)}(e:ie p H H')(hp:H p=some (.ins C dx fs)){v:V}{ns:List Int}(h:IL K H v ns):IL K H' v ns:=by
 obtain⟨a,rfl,h⟩:=h
 exact⟨a,rfl,e.seq hp h⟩
theorem ie.tl{K:W.Frag}{H H':Hp}{p C dx:Addr}{fs:List (Str×V)}(e:ie p H H')(hp:H p=some (.ins C dx fs)){v:V}{rs:List (List Int)}(h:TL K H v rs):TL K H' v rs:=by
 obtain⟨a,as,rfl,h1,h2⟩:=h
 exact⟨a,as,rfl,e.seq hp h1,e.rows hp h2⟩
def Sn(v:V)(i:Int):List (Str×V):=[("numbers",v),("place",.int i)]
theorem nq(v:V)(i:Int):(Sn v i).lookup ("numbers":Str)=some v:=rfl
theorem mz(v:V)(i:Int):(Sn v i).lookup ("place":Str)=some (.int i):=rfl
theorem JM(v:V)(i j:Int):et "place" (.int j) (Sn v i)=Sn v j:=rfl
structure wJ(K:W.Frag)(C:Addr):Prop where
 cl:Bw K C
 nN:ez K C "numbers"
 nP:ez K C "place"
def BO(C:Addr)(H:Hp)(p:Addr)(v:V)(i:Int):Prop:=∃dx,H p=some (.ins C dx (Sn v i))
def E2(C:Addr):Sp:=fun vs H Q _=>∃(p dx:Addr)(v:V),vs=[.ref p,v]∧H p=some (.ins C dx [])∧∀H':Hp,BO C H' p v 0→ie p H H'→Q .fC H'
def E3(K:W.Frag)(C:Addr):Sp:=fun vs H Q _=>∃(p:Addr)(v:V)(ns:List Int)(i:Int),vs=[.ref p]∧BO C H p v i∧IL K H v ns∧Q (.bl (decide ((ns.length:Int)≤i))) H
def yI(K:W.Frag)(C:Addr):Sp:=fun vs H Q _=>∃(p:Addr)(v:V)(ns:List Int)(i:Nat)(x:Int),vs=[.ref p]∧BO C H p v (i:Nat)∧IL K H v ns∧ns[i]? =some x∧∀H':Hp,BO C H' p v ((i+1:Nat):Int)→ie p H H'→Q (.int x) H'
def OC(K:W.Frag)(C:Addr):Sp:=fun vs H Q _=>∃(p:Addr)(v:V)(ns:List Int)(i m:Nat),vs=[.ref p]∧BO C H p v (i:Nat)∧IL K H v ns∧ns[i]? =some (m:Int)∧i+1+m≤ns.length∧
 ∀(H':Hp)(v':V),BO C H' p v ((i+1+m:Nat):Int)→ie p H H'→IL K H' v' ((ns.drop (i+1)).take m)→Q v' H'
section
variable{P:Program}{w:World}{K:W.Frag}{mg:Str→Option Value}{base:Heap}
theorem JN:bf ["self","numbers"] ["self","numbers"] (aB lX):=⟨rfl,rfl,rfl,by decide +kernel,rfl,by decide +kernel,by decide +kernel⟩
theorem JO{f C:Addr}{fd:FuncData}(F:f6 K "__init__" "Reader.__init__" lX f fd)(R:wJ K C):cF P w K mg base fT 1 f fd ["self","numbers"] (E2 C):=by
 refine F.ok JN (fun vs H Q E h=>?_) (fun eM A outer s H vs Q E hr h=>?_)
 ·obtain⟨p,dx,v,rfl,_⟩:=h
  rfl
 ·obtain⟨p,dx,v,rfl,hp,k⟩:=h
  refine⟨_,ak (fu (pv 0) (pv 1) rfl) (aA (fu (pv 0) bG rfl)),?_⟩
  refine⟨_,rfl,_,rfl,p,C,dx,[],rfl,hp,R.cl,R.nN,(by show 0<1000;decide),?_⟩
  refine⟨_,rfl,p,C,dx,_,rfl,au,R.cl,R.nP,(by show 1<1000;decide),?_⟩
  refine k _ ⟨dx,au⟩ (ie.upd.trans ie.upd)
theorem JP:bf ["self"] ["self"] (aB jW):=⟨rfl,rfl,rfl,by decide +kernel,rfl,by decide +kernel,by decide +kernel⟩
theorem JQ{f C:Addr}{fd:FuncData}(F:f6 K "at_end" "Reader.at_end" jW f fd)(T:Txt mg)(R:wJ K C):cF P w K mg base fT 1 f fd ["self"] (E3 K C):=by
 refine F.ok JP (fun vs H Q E h=>?_) (fun eM A outer s H vs Q E hr h=>?_)
 ·obtain⟨p,v,ns,i,rfl,_⟩:=h
  rfl
 ·obtain⟨p,v,ns,i,rfl,⟨dx,hp⟩,⟨a,rfl,ha⟩,k⟩:=h
  refine⟨_,aA (a9 (rN Ot (bz (pv 0) rfl) (bZ bN (by rfl) T.len bK (ah (bz (pv 0) rfl) ax)) (cW _))),?_⟩
  refine⟨_,rfl,p,C,dx,_,_,rfl,hp,R.cl,R.nP,mz _ _,_,rfl,p,C,dx,_,_,rfl,hp,R.cl,R.nN,nq _ _,a,_,rfl,.inl ha,_,_,rfl,rfl,?_⟩
  rw[ae]
  exact k
theorem JR:bf ["self","number"] ["self"] (aB gg):=⟨rfl,rfl,rfl,by decide +kernel,rfl,by decide +kernel,by decide +kernel⟩
theorem QS{f C:Addr}{fd:FuncData}(F:f6 K "read_number" "Reader.read_number" gg f fd)(R:wJ K C):cF P w K mg base fT 1 f fd ["self"] (yI K C):=by
 refine F.ok JR (fun vs H Q E h=>?_) (fun eM A outer s H vs Q E hr h=>?_)
 ·obtain⟨p,v,ns,i,x,rfl,_⟩:=h
  rfl
 ·obtain⟨p,v,ns,i,x,rfl,⟨dx,hp⟩,⟨a,rfl,ha⟩,hx,k⟩:=h
  refine⟨_,ak (bI (i:=1) JR.nd rfl (Or.inl rfl) (cK bH (bz (pv 0) rfl) (bz (pv 0) rfl) (fun _ _=>rfl)))
   (ak (Gn (pv 0) bG Qr) (aA (a9 (pv 1)))),?_⟩
  refine⟨_,rfl,p,C,dx,_,_,rfl,hp,R.cl,R.nN,nq _ _,_,rfl,p,C,dx,_,_,rfl,hp,R.cl,R.nP,mz _ _,a,_,_,_,rfl,rfl,ha,at_of (j:=i) (v:=V.int x) rfl (by rw[ag,hx];rfl),?_⟩
  refine⟨_,rfl,p,C,dx,_,_,rfl,hp,R.cl,R.nP,mz _ _,_,_,rfl,rfl,dx,_,hp,(by show 2<1000;decide),_,rfl,?_⟩
  refine k _ ⟨dx,?_⟩ ie.upd
  rw[au,JM]
  push_cast
  rfl
theorem JS:bf ["self","start"] ["self"] (aB iW):=⟨rfl,rfl,rfl,by decide +kernel,rfl,by decide +kernel,by decide +kernel⟩
theorem QT{f C:Addr}{fd:FuncData}(F:f6 K "read_row" "Reader.read_row" iW f fd)(R:wJ K C):cF P w K mg base fT 1 f fd ["self"] (OC K C):=by
 refine F.ok JS (fun vs H Q E h=>?_) (fun eM A outer s H vs Q E hr h=>?_)
 ·obtain⟨p,v,ns,i,m,rfl,_⟩:=h
  rfl
 ·obtain⟨p,v,ns,i,m,rfl,⟨dx,hp⟩,⟨a,rfl,ha⟩,hx,hle,k⟩:=h
  refine⟨_,ak (bI (i:=1) JS.nd rfl (Or.inl rfl) (dF kF (bz (pv 0) rfl) bG))
   (ak (fu (pv 0) (dF kF (pv 1) (cK bH (bz (pv 0) rfl) (bz (pv 0) rfl) (fun _ _=>rfl))) rfl)
   (aA (a9 (mi pL (bz (pv 0) rfl) (kj (pv 1)) (kj (bz (pv 0) rfl)))))),?_⟩
  refine⟨_,rfl,p,C,dx,_,_,rfl,hp,R.cl,R.nP,mz _ _,_,_,rfl,rfl,?_⟩
  refine⟨_,rfl,_,rfl,p,C,dx,_,_,rfl,hp,R.cl,R.nN,nq _ _,_,rfl,p,C,dx,_,_,rfl,hp,R.cl,R.nP,mz _ _,a,_,_,_,rfl,rfl,ha,at_of (j:=i) (v:=V.int (m:Int)) rfl (by rw[ag,hx];rfl),
   _,_,rfl,rfl,_,rfl,p,C,dx,_,rfl,hp,R.cl,R.nP,(by show 2<1000;decide),?_⟩
  refine⟨_,rfl,p,C,dx,_,_,rfl,au,R.cl,R.nN,nq _ _,_,rfl,_,rfl,_,rfl,p,C,dx,_,_,rfl,au,R.cl,R.nP,mz _ _,_,rfl,a,_,rfl,ie.upd.seq hp ha,fun q hq=>?_⟩
  have YL:p≠q:=aK au hq
  refine k _ _ ⟨dx,?_⟩ (ie.upd.trans (GT.a0.but (bq hq))) ⟨q,rfl,cy.of ?_⟩
  ·rw[aE YL,au,JM]
   push_cast
   rfl
  ·rw[au]
   congr 2
   have e1:(i:Int)+1=((i+1:Nat):Int):=by push_cast;rfl
   have e2:((i+1:Nat):Int)+(m:Int)=((i+1+m:Nat):Int):=by push_cast;rfl
   rw[e1,e2,Ai _ (by omega) (by rw[ae];exact hle),j3,so]
   congr 1
   omega
end
end GT
end
section
namespace GT
open PySem PySem.Spec PyProof.Rows L2
section
variable{P:Program}{w:World}{K:W.Frag}{mg:Str→Option Value}{base:Heap}
theorem BP{n:Nat}(h:n<2):Rd01.isPrime n=false:=by
 unfold Rd01.isPrime
 rw[decide_eq_false (by omega)]
 rfl
theorem JT{n d:Nat}(h2:2≤d)(hd:d*d≤n)(h:n % d=0):Rd01.isPrime n=false:=by
 cases e:Rd01.isPrime n with
 |false=>rfl
 |true=>
  have hp:=Sp.CJ e
  rcases hp.2 d (dB h)with h1|h1
  ·omega
  ·subst h1
   have:d*2≤d*d:=fe d h2
   omega
theorem GJ{n d:Nat}(h2:2≤n)(hd:n<d*d)(h: ∀e,2≤e→e<d→n % e≠0):Rd01.isPrime n=true:=by
 apply Sp.qk
 refine⟨h2,fun c hc=>?_⟩
 obtain⟨q,hq⟩:=hc
 by_cases UE:c=1
 ·exact .inl UE
 ·right
  have FR:c≠0:=by rintro rfl;omega
  have YM:q≠0:=by rintro rfl;omega
  by_cases tV:c<d
  ·exact absurd (by rw[hq];exact Nat.mul_mod_right c q) (h c (by omega) tV)
  ·by_cases Ln:q=1
   ·subst Ln;omega
   ·by_cases hqd:q<d
    ·exact absurd (by rw[hq];exact Nat.mul_mod_left c q) (h q (by omega) hqd)
    ·exfalso
     have:d*d≤c*q:=ja (by omega) (by omega)
     omega
def E4:Sp:=fun vs H Q _=>∃n:Nat,vs=[.int (n:Nat)]∧n≤100000∧Q (.bl (Rd01.isPrime n)) H
theorem wK:bf ["number","divisor"] ["number"] (aB qx):=⟨rfl,rfl,rfl,by decide +kernel,rfl,by decide +kernel,by decide +kernel⟩
theorem JU{f:Addr}{fd:FuncData}(F:f6 K "is_prime" "is_prime" qx f fd):cF P w K mg base fT 1 f fd ["number"] E4:=by
 refine F.ok wK (fun vs H Q E h=>?_) (fun eM A outer s H vs Q E hr h=>?_)
 ·obtain⟨n,rfl,_⟩:=h
  rfl
 ·obtain⟨n,rfl,hn,k⟩:=h
  refine⟨_,ak (dR (cJ wu (pv 0) bG (cW _)) (aA (a9 qc)) cq)
   (ak (bI (i:=1) wK.nd rfl (Or.inl rfl) bG)
   (ak (iT bx (cJ uc (dF jm (pv 1) (pv 1)) (pv 0) (cW _))
    (ak (dR (cJ iE (dF jV (pv 0) (pv 1)) bG (cW _)) (aA (a9 qc)) cq)
    (aA (sV (i:=1) wK.nd rfl (Or.inl rfl) bG qr))))
   (aA (a9 qc)))),?_⟩
  refine⟨_,rfl,_,_,rfl,rfl,_,rfl,?_⟩
  refine gA (fun eI=>?_) (fun Ed=>?_)
  ·have h1:n<2:=by have:=of_decide_eq_true eI;omega
   rw[BP h1]at k
   exact k
  ·have h1:2≤n:=by
    have: ¬((n:Int)<2):=fun q=>Ed (decide_eq_true q)
    omega
   refine⟨fun m σ H'=>∃d:Nat,σ=[some (.int (n:Nat)),some (.int (d:Nat))]∧H'=H∧2≤d∧d≤n+1∧m=n+1-d∧∀e,2≤e→e<d→n % e≠0,⟨_,2,rfl,rfl,by omega,by omega,rfl,fun e h2 h3=>by omega⟩,?_⟩
   rintro m σ H' ⟨d,rfl,rfl,hd2,Lo,rfl,kd⟩
   refine⟨_,rfl,_,rfl,_,_,rfl,rfl,.inl ⟨by omega,by omega⟩,_,rfl,_,_,rfl,rfl,_,rfl,?_⟩
   have ec:(d:Int)*(d:Int)=((d*d:Nat):Int):=by push_cast;rfl
   refine gA (fun hle=>?_) (fun QU=>?_)
   ·have QV:d*d≤n:=by
     have:=of_decide_eq_true hle
     rw[ec]at this
     omega
    have hdd:d*2≤d*d:=fe d hd2
    refine⟨fun σ' yH=>∃d':Nat,σ'=[some (.int (n:Nat)),some (.int (d':Nat))]∧yH=H'∧d'=d+1∧n % d≠0,?_,?_⟩
    ·rintro σ' yH ⟨d',rfl,rfl,rfl,xD⟩
     refine⟨n+1-(d+1),by omega,d+1,rfl,rfl,by omega,by omega,rfl,fun e h2 h3=>?_⟩
     by_cases VN:e=d
     ·subst VN;exact xD
     ·exact kd e h2 (by omega)
    ·refine⟨_,rfl,_,rfl,_,_,rfl,rfl,(by show(0:Int)<(d:Int);omega),rfl,_,rfl,?_⟩
     have em:((n:Int) % (d:Int))=((n % d:Nat):Int):=by push_cast;rfl
     refine gA (fun h0=>?_) (fun h0=>?_)
     ·have YN:V.int ((n:Int) % (d:Int))=V.int 0:=of_decide_eq_true h0
      injection YN with YN
      rw[em]at YN
      rw[JT hd2 QV (by omega)]at k
      exact k
     ·refine⟨_,rfl,_,_,rfl,rfl,d+1,?_,rfl,rfl,fun q=>h0 ?_⟩
      ·push_cast
       rfl
      ·show decide (V.int ((n:Int) % (d:Int))=V.int 0)=true
       rw[em,q]
       rfl
   ·have MQ:n<d*d:=by
     have: ¬((d:Int)*(d:Int)≤(n:Int)):=fun q=>QU (decide_eq_true q)
     rw[ec]at this
     omega
    rw[GJ h1 MQ kd]at k
    exact k
def E5:Sp:=fun vs H Q _=>∃b e q:Nat,vs=[.int (b:Nat),.int (e:Nat)]∧1≤e∧Ch.gR q∧b<q∧(q-1) % e=0∧q≤100000∧(∀q',Ch.gR q'→b<q'→(q'-1) % e=0→q≤q')∧Q (.int (q:Nat)) H
theorem wL:bf ["bound","step","candidate"] ["bound","step"] (aB lU):=⟨rfl,rfl,rfl,by decide +kernel,rfl,by decide +kernel,by decide +kernel⟩
theorem MR{c e q:Nat}(hc:1≤c)(h1:(c-1) % e=0)(h2:(q-1) % e=0)(eI:c<q):c+e≤q:=by
 obtain⟨x,hx⟩:=dB h1
 obtain⟨y,hy⟩:=dB h2
 have YO:x<y:=by
  apply Nat.lt_of_mul_lt_mul_left (a:=e)
  omega
 have:e*(x+1)≤e*y:=fe e YO
 rw[Nat.mul_add]at this
 omega
theorem JV{f:Addr}{fd:FuncData}(F:f6 K "least_prime" "least_prime" lU f fd)(c1:iJ P w K mg base 1 "is_prime" ["number"] E4):cF P w K mg base fT 2 f fd ["bound","step"] E5:=by
 refine F.ok wL (fun vs H Q E h=>?_) (fun eM A outer s H vs Q E hr h=>?_)
 ·obtain⟨b,e,q,rfl,_⟩:=h
  rfl
 ·obtain⟨b,e,q,rfl,he,hq,DA,YQ,hq5,Pz,k⟩:=h
  refine⟨_,ak (bI (i:=2) wL.nd rfl (Or.inl rfl) bG)
   (ak (iT bx (PW.pt (Bs (cJ uc (pv 2) (pv 0) (cW _)) (zM (iR (fH (bQ c1 hr rfl (ah (pv 2) ax)))))))
    (aA (sV (i:=2) wL.nd rfl (Or.inl rfl) (pv 1) qr)))
   (aA (a9 (pv 2)))),?_⟩
  refine⟨fun m σ H'=>∃c:Nat,σ=[some (.int (b:Nat)),some (.int (e:Nat)),some (.int (c:Nat))]∧H'=H∧1≤c∧c≤q∧(c-1) % e=0∧m=q-c,⟨_,1,rfl,rfl,aq 1,by have:=hq.1;omega,Nat.zero_mod e,rfl⟩,?_⟩
  rintro m σ H' ⟨c,rfl,rfl,UE,PV,Ul,rfl⟩
  have go:c<q→∃N:L2.St→Hp→Prop,(∀σ' yH,N σ' yH→∃m',m'<q-c∧∃c:Nat,σ'=[some (.int (b:Nat)),some (.int (e:Nat)),some (.int (c:Nat))]∧yH=H'∧1≤c∧c≤q∧(c-1) % e=0∧m'=q-c)∧
    N [some (.int (b:Nat)),some (.int (e:Nat)),some (.int ((c:Int)+(e:Int)))] H':=fun eI=>by
   have h5:=MR UE Ul YQ eI
   refine⟨fun σ' yH=>σ'=[some (.int (b:Nat)),some (.int (e:Nat)),some (.int ((c:Int)+(e:Int)))]∧yH=H',?_,rfl,rfl⟩
   rintro σ' yH ⟨rfl,rfl⟩
   refine⟨q-(c+e),by omega,c+e,?_,rfl,by omega,h5,?_,rfl⟩
   ·push_cast
    rfl
   ·rw[show c+e-1=(c-1)+e by omega,Nat.add_mod_right]
    exact Ul
  refine⟨_,rfl,_,rfl,_,_,rfl,rfl,_,rfl,?_⟩
  refine gA (fun hle=>?_) (fun QU=>?_)
  ·have QV:c≤b:=by have:=of_decide_eq_true hle;omega
   obtain⟨N,h1,h2⟩:=go (by omega)
   exact⟨N,h1,_,rfl,_,rfl,_,_,rfl,rfl,h2⟩
  ·have MQ:b<c:=by
    have: ¬((c:Int)≤(b:Int)):=fun q=>QU (decide_eq_true q)
    omega
   refine⟨_,rfl,c,rfl,by omega,_,rfl,?_⟩
   refine gA (fun sr=>?_) (fun Hz=>?_)
   ·have df:c≠q:=by
     rintro rfl
     rw[Sp.qk hq]at sr
     cases sr
    obtain⟨N,h1,h2⟩:=go (by omega)
    exact⟨N,h1,_,rfl,_,rfl,_,_,rfl,rfl,h2⟩
   ·have hp:Rd01.isPrime c=true:=by
     cases e2:Rd01.isPrime c with
     |true=>rfl
     |false=>
      rw[e2]at Hz
      exact absurd rfl Hz
    have:=Pz c (Sp.CJ hp) MQ Ul
    have YR:c=q:=by omega
    subst YR
    exact⟨_,rfl,k⟩
end
end GT
end
section
namespace GT
open PySem PySem.Spec PyProof.Rows L2
open Rd01 (Grp factsOf)
section
variable{P:Program}{w:World}{K:W.Frag}{mg:Str→Option Value}{base:Heap}
theorem DD(n:Nat):((List.range (((n:Nat):Int)-0).toNat).map fun(i:Nat)=>V.int (0+(i:Nat)))=(kM n).map V.int:=by
 rw[show(((n:Nat):Int)-0).toNat=n by omega,kM,aU]
 apply bM
 intro i _
 show V.int (0+(i:Int))=V.int (i:Int)
 rw[fj]
def OD(K:W.Frag):Sp:=fun vs H Q _=>∃(v:V)(g:Grp),vs=[v]∧TL K H v (Sp.cI g)∧Sp.jO g∧g.n≤64∧∀H',a0 H H'→Q (.int ((factsOf g).exponent:Nat)) H'
theorem qA:bf ["products","power","raised","base","thing"] ["products"] (aB m8):=⟨rfl,rfl,rfl,by decide +kernel,rfl,by decide +kernel,by decide +kernel⟩
theorem QW{f:Addr}{fd:FuncData}(F:f6 K "exponent" "exponent" m8 f fd)(T:Txt mg):cF P w K mg base fT 1 f fd ["products"] (OD K):=by
 refine F.ok qA (fun vs H Q E h=>?_) (fun eM A outer s H vs Q E hr h=>?_)
 ·obtain⟨v,g,rfl,_⟩:=h
  rfl
 ·obtain⟨v,g,rfl,⟨a,as,rfl,ha,kf⟩,hg,xw,k⟩:=h
  refine⟨_,ak (bI (i:=1) qA.nd rfl (Or.inl rfl) bG)
   (ak (bI (i:=2) qA.nd rfl (Or.inl rfl) (fR (lF rfl) (by rfl) T.list boot_list (ah (fR pP (by rfl) T.range HC (ah (bZ bN (by rfl) T.len bK (ah (pv 0) ax)) ax)) ax)))
   (ak (iT bx (fH (bZ (ET rfl) (by rfl) T.any yC (ah (pv 2) ax)))
    (ak (gf rfl qA.nd (i:=2) rfl rfl (by rfl) (rS rfl T.enum (ah (pv 2) ax)) (own:=[("base",3),("thing",4)]) (cB (by show ij ["products","power","raised","base","thing"] (aB m8) _ _=true;decide +kernel))
     (g:=xS K 2 (iS (gM 3) (iS (gM 4) xR))) (fun s H C cl fp=>lQ rfl (dz (bE (i:=3) qA.nd rfl (Or.inl rfl) (.inr rfl)) (dz (bE (i:=4) qA.nd rfl (Or.inl rfl) (.inr rfl)) jy))) (fun s H C cl fp=>cZ)
     (fun s H C cl fp=>cK (show EF _ (mj K)from bH) (cK (show EF _ (mj K)from bH) (pv 0) (pv 4) (fun _ _=>rfl)) (pv 3) (fun _ _=>rfl)))
    (aA (sV (i:=1) qA.nd rfl (Or.inl rfl) bG qr))))
   (aA (a9 (pv 1))))),?_⟩
  have hlen:as.length=(Sp.cI g).length:=kf.len
  rw[Sp.ek]at hlen
  have oj:(as.map V.ref).length=g.n:=by rw[ae,hlen]
  obtain⟨YS,ex2,ex3,ex4⟩:=Sp.gU hg
  have rB:=hg.pos
  refine⟨_,rfl,a,_,rfl,.inl ha,_,rfl,fun p hp=>?_⟩
  rw[oj]
  refine⟨p,0,_,rfl,au,kr 0,p6 _,by omega,fun l hl=>?_⟩
  rw[DD]
  have s1:a0 H (upd H p (.AH 0 (g.n:Nat))):=bq hp
  have s2:a0 H (upd (upd H p (.AH 0 (g.n:Nat))) l (.lst ((kM g.n).map V.int))):=s1.trans (bq hl)
  have SY:upd (upd H p (.AH 0 (g.n:Nat))) l (.lst ((kM g.n).map V.int)) l=some (.lst ((Sp.mT g 1).map V.int)):=by
   rw[au,Sp.Im hg]
   rfl
  generalize upd (upd H p (.AH 0 (g.n:Nat))) l (.lst ((kM g.n).map V.int))=H2 at s2 SY
  refine⟨fun m σ H'=>∃(e:Nat)(l:Addr)(v3 v4:Option V),σ=[some (.ref a),some (.int (e:Nat)),some (.ref l),v3,v4]∧a0 H H'∧cy K H' l ((Sp.mT g e).map V.int)∧1≤e∧e≤(factsOf g).exponent∧m=(factsOf g).exponent-e,
   ⟨_,1,l,none,none,rfl,s2,cy.of SY,aq 1,YS,rfl⟩,?_⟩
  rintro m σ H' ⟨e,l,v3,v4,rfl,e1,hl,he1,he2,rfl⟩
  refine⟨_,rfl,l,_,rfl,hl,_,rfl,?_⟩
  refine gA (fun UG=>?_) (fun yc=>?_)
  ·have eI:e<(factsOf g).exponent:=by
    apply ai
    intro Ed
    have Ib:e=(factsOf g).exponent:=by omega
    subst Ib
    rw[(Sp.A8 g _).mpr ex3]at UG
    cases UG
   refine⟨fun σ' yH=>∃(l:Addr)(v3 v4:Option V),σ'=[some (.ref a),some (.int ((e+1:Nat):Int)),some (.ref l),v3,v4]∧a0 H yH∧cy K yH l ((Sp.mT g (e+1)).map V.int),?_,?_⟩
   ·rintro σ' yH ⟨l',v3,v4,rfl,e2,Xu⟩
    exact⟨(factsOf g).exponent-(e+1),by omega,e+1,l',v3,v4,rfl,e2,Xu,by omega,eI,rfl⟩
   ·refine⟨_,rfl,l,_,rfl,hl,fun D hD=>eg (rX hl) (by rw[ae,Sp.kz];omega) hD ((Sp.mT g (e+1)).map V.int) (by simp[Sp.kz]) ?_ ?_⟩
    ·rintro i x H3 Z hi e3 ⟨Tt,x',rfl,xZ,hT⟩ z
     rw[ae,Sp.kz]at hi
     have YT:x'=V.int ((factsOf g).pow i e:Nat):=by
      rw[Sp.mT,aU,ag,aX hi]at xZ
      exact(a7 xZ).symm
     subst YT
     have n9:=Sp.CI hg hi e
     have e4:a0 H H3:=e1.trans e3
     obtain⟨b,hb,i9⟩:=kf.get (i:=(factsOf g).pow i e) (by rw[Sp.ek];exact n9)
     refine⟨Tt,_,rfl,.inl (.inl hT),rfl,_,_,rfl,_,_,rfl,rfl,rfl,_,rfl,_,rfl,a,_,_,_,rfl,rfl,e4.seq ha,at_of (j:=(factsOf g).pow i e) (v:=V.ref b) rfl (by rw[ag,hb];rfl),
      _,rfl,b,_,_,_,rfl,rfl,e4.seq i9,at_of (j:=i) rfl (sx (by rw[Sp.dG hg n9];exact hi)),z _ _ a0.refl ?_⟩
     rw[Sp.jl hg n9 hi,Sp.mT,aU,ag,aX hi]
     rfl
    ·intro H3 e3 rY
     refine⟨_,rfl,_,_,rfl,rfl,D,v3,v4,?_,e1.trans e3,cy.of rY⟩
     push_cast
     rfl
  ·have hz:=(Sp.A8 g e).mp (by rw[fz]at yc;exact yc)
   have Ib:e=(factsOf g).exponent:=by
    apply ai
    intro df
    exact ex4 e he1 (by omega) hz
   subst Ib
   exact⟨_,rfl,k _ e1⟩
end
end GT
end
section
namespace GT
open PySem PySem.Spec PyProof.Rows L2
def HL(H:Hp)(v:V)(ns:List Int):Prop:=∃a,v=.ref a∧H a=some (.lst (ns.map V.int))
def cb(H:Hp):List Addr→List (List Int)→Prop
 |[],[]=>True
 |a::as,r::rs=>H a=some (.lst (r.map V.int))∧cb H as rs
 |_,_=>False
def HT(H:Hp)(v:V)(rs:List (List Int)):Prop:=∃a as,v=.ref a∧H a=some (.lst (as.map V.ref))∧cb H as rs
section
variable{K:W.Frag}{H H':Hp}
theorem cb.same(e:a0 H H'): ∀{as:List Addr}{rs:List (List Int)},cb H as rs→cb H' as rs
 |[],[],h=>h
 |a::as,r::rs,h=>⟨e _ _ h.1,cb.same e h.2⟩
 |[],_::_,h=>h.elim
 |_::_,[],h=>h.elim
theorem cb.rows: ∀{as:List Addr}{rs:List (List Int)},cb H as rs→eA K H as rs
 |[],[],h=>h
 |a::as,r::rs,h=>⟨cy.of h.1,cb.rows h.2⟩
 |[],_::_,h=>h.elim
 |_::_,[],h=>h.elim
theorem cb.len: ∀{as:List Addr}{rs:List (List Int)},cb H as rs→as.length=rs.length
 |[],[],_=>rfl
 |a::as,r::rs,h=>ba (·+1) (cb.len h.2)
 |[],_::_,h=>h.elim
 |_::_,[],h=>h.elim
theorem cb.app: ∀{as bs:List Addr}{rs ss:List (List Int)},cb H as rs→cb H bs ss→cb H (as++bs) (rs++ss)
 |[],_,[],_,_,h=>h
 |a::as,_,r::rs,_,h1,h=>⟨h1.1,cb.app h1.2 h⟩
 |[],_,_::_,_,h,_=>h.elim
 |_::_,_,[],_,h,_=>h.elim
theorem cb.at_: ∀{as:List Addr}{rs:List (List Int)}{i:Nat}{b:Addr},cb H as rs→as[i]? =some b→∃r,rs[i]? =some r∧H b=some (.lst (r.map V.int))
 |a::as,r::rs,0,b,h,e=>by
  cases (show some a=some b from e)
  exact⟨r,rfl,h.1⟩
 |a::as,r::rs,i+1,b,h,e=>cb.at_ (i:=i) h.2 e
 |[],[],_,_,_,e=>by simp at e
 |[],_::_,_,_,h,_=>h.elim
 |_::_,[],_,_,h,_=>h.elim
theorem cb.JW: ∀(as:List Addr)(rs:List (List Int)),as.length=rs.length→(∀(j:Nat)(b:Addr),as[j]? =some b→∃r,rs[j]? =some r∧H b=some (.lst (r.map V.int)))→cb H as rs
 |[],[],_,_=>trivial
 |[],_::_,h,_=>by simp at h
 |_::_,[],h,_=>by simp at h
 |b::as,r::rs,hl,h=>by
  obtain⟨r',h5,h6⟩:=h 0 b rfl
  cases h5
  exact⟨h6,cb.JW as rs (by simpa using hl) fun j b' hj=>h (j+1) b' hj⟩
theorem cb.but{D:Addr}(e:ie D H H'): ∀{as:List Addr}{rs:List (List Int)},(∀b∈as,b≠D)→cb H as rs→cb H' as rs
 |[],[],_,h=>h
 |a::as,r::rs,hd,h=>⟨e _ _ h.1 (hd a (by simp)),cb.but e (fun b hb=>hd b (by simp[hb])) h.2⟩
 |[],_::_,_,h=>h.elim
 |_::_,[],_,h=>h.elim
end
structure GK(J:It)(n:Nat)(Item:Nat→V→Hp→Prop)(Ok:Hp→Prop):Prop where
 go: ∀i H,Ok H→i<n→J.go i H
 stop: ∀H,Ok H→J.stop n H
 uu: ∀i H x H',Ok H→i<n→J.uu i H x H'→a0 H H'∧Item i x H'
theorem jt{J:It}{g:TG}{tb:TS}{D:Ends}{σ:L2.St}{H1:Hp}{n:Nat}{Item:Nat→V→Hp→Prop}{Ok:Hp→Prop}(S:GK J n Item Ok)(Pv:Nat→L2.St→Hp→Prop)(h0:Pv 0 σ H1)(hk: ∀i σ H,Pv i σ H→Ok H)
  (hs: ∀i x σ H H',i<n→Pv i σ H→a0 H H'→Item i x H'→g x σ H' fun σ2 H2=>tb {D with nx:=Pv (i+1),ct:=Pv (i+1),bk:=D.nx} σ2 H2)(hd: ∀σ H,Pv n σ H→D.nx σ H):Uy J g tb D σ H1:=by
 refine⟨fun i m σ H=>m=n-i∧i≤n∧Pv i σ H,⟨n,by simp,bB _,h0⟩,?_⟩
 rintro i m σ H ⟨rfl,hi,p⟩
 by_cases eI:i<n
 ·refine .inr ⟨S.go i H (hk _ _ _ p) eI,Pv (i+1),fun σ' H' p'=>⟨n-(i+1),by omega,rfl,eI,p'⟩,fun x H' y=>?_⟩
  obtain⟨e1,it⟩:=S.uu i H x H' (hk _ _ _ p) eI y
  exact hs i x σ H H' eI p e1 it
 ·have e:i=n:=by omega
  subst e
  exact .inl ⟨S.stop H (hk _ _ _ p),hd σ H p⟩
section
variable{K:W.Frag}{a b:Addr}{xs ys:List V}
theorem uQ:GK (Lv K a) xs.length (fun i x _=>xs[i]? =some x) (fun H=>cy K H a xs) where
 go:=fun i H e hi=>⟨xs,xs[i],e,by simp[hi]⟩
 stop:=fun H e=>⟨xs,e,aq _⟩
 uu:=fun i H x H' e hi y=>by
  obtain⟨e1,y⟩:=y
  subst e1
  exact⟨a0.refl,y xs e⟩
theorem wM{lo:Int}{n:Nat}:GK (Ml lo n) n (fun i x _=>x=.int (lo+i)) (fun _=>True) where
 go:=fun i H e hi=>hi
 stop:=fun H e=>aq _
 uu:=fun i H x H' e hi y=>by
  obtain⟨e1,y⟩:=y
  subst e1
  exact⟨a0.refl,y⟩
theorem MT:GK (Wg K a) xs.length (fun i v H'=>∃T x,v=.ref T∧xs[i]? =some x∧H' T=some (.tup [.int (i:Nat),x])) (fun H=>cy K H a xs) where
 go:=fun i H e hi=>⟨xs,xs[i],e,by simp[hi]⟩
 stop:=fun H e=>⟨xs,e,aq _⟩
 uu:=fun i H x H' e hi y=>by
  obtain⟨T,z,rfl,hT,rfl,y⟩:=y
  exact⟨bq hT,T,z,rfl,y xs e,au⟩
theorem DE(hl:xs.length=ys.length):GK (Wh K a b) xs.length (fun i v H'=>∃T x y,v=.ref T∧xs[i]? =some x∧ys[i]? =some y∧H' T=some (.tup [x,y])) (fun H=>cy K H a xs∧cy K H b ys) where
 go:=fun i H e hi=>⟨xs,ys,xs[i],ys[i],e.1,e.2,by simp[hi],by simp[show i<ys.length by omega]⟩
 stop:=fun H e=>⟨xs,ys,e.1,e.2,.inl (aq _)⟩
 uu:=fun i H x H' e hi y=>by
  obtain⟨T,z,z',rfl,hT,rfl,y1,y2⟩:=y
  exact⟨bq hT,T,z,z',rfl,y1 xs e.1,y2 ys e.2,au⟩
end
theorem E6{J:It}{g:TG}{tt:TT}{te:TE}{vs:List Nat}{σ:L2.St}{H1:Hp}{D:Addr}{Qd:Hp→Prop}{n:Nat}{Item:Nat→V→Hp→Prop}(S:Src J H1 n Item)(hn:n≤100000)(hD:H1 D=none)(b:Nat→Bool)(y:Nat→V)
  (hs: ∀(i:Nat)(x:V)(H':Hp)(Z:V→Hp→Prop)(N:Hp→Prop),i<n→a0 H1 H'→Item i x H'→(b i=true→∀H4,a0 H' H4→Z (y i) H4)→(b i=false→∀H4,a0 H' H4→N H4)→
   g x (wipe σ vs) H' fun σ2 H2=>wipe σ2 vs=wipe σ vs∧tt σ2 H2 fun c H3=>if c=true then te σ2 H3 Z else N H3)
  (hd: ∀H,a0 H1 H→H D=some (.lst (((List.range n).filter b).map y))→Qd H):Ux J g tt te vs σ H1 D Qd:=by
 have hlen: ∀i,(((List.range i).filter b).map y).length≤i:=fun i=>by
  rw[ae]
  exact bW (eB _ _) (by simp)
 refine⟨fun i m H=>m=n-i∧i≤n∧a0 H1 H∧H D=some (.lst (((List.range i).filter b).map y)),⟨n,by simp,bB _,bq hD,au⟩,?_⟩
 rintro i m H ⟨rfl,hi,e,ha⟩
 by_cases eI:i<n
 ·refine .inr ⟨S.go i H e eI,fun H'=>i+1≤n∧a0 H1 H'∧H' D=some (.lst (((List.range (i+1)).filter b).map y)),fun H' p'=>⟨n-(i+1),by omega,rfl,p'⟩,fun x H' yl=>?_⟩
  obtain⟨e1,it⟩:=S.uu i H x H' e eI yl
  refine hs i x H' (fun z H4=>∃acc,H4 D=some (.lst acc)∧acc.length<sizeLine∧(i+1≤n∧a0 H1 (upd H4 D (.lst (acc++[z])))∧upd H4 D (.lst (acc++[z])) D=some (.lst (((List.range (i+1)).filter b).map y)))) _ eI (e.trans e1) it (fun hb H4 e4=>?_) (fun hb H4 e4=>?_)
  ·refine⟨_,(e1.trans e4) _ _ ha,?_,eI,a0.fO hD ((e.trans e1).trans e4),?_⟩
   ·have:=hlen i
    have:=bD
    omega
   ·rw[au,cQ,gZ,bo,tO (by simpa using hb)]
    rfl
  ·refine⟨eI,(e.trans e1).trans e4,?_⟩
   rw[(e1.trans e4) _ _ ha,cQ,gZ,tP (by simp[hb]),List.filter_nil,dS]
 ·have tW:i=n:=by omega
  subst tW
  exact .inl ⟨S.stop H e,hd H e ha⟩
theorem r6{J:It}{g:TG}{te:TE}{vs:List Nat}{σ:L2.St}{H1:Hp}{D:Addr}{Qd:Hp→Prop}{n:Nat}{Item:Nat→V→Hp→Prop}(S:Src J H1 n Item)(hn:n≤100000)(hD:H1 D=none)(out:List (List Int))(pY:out.length=n)
  (hs: ∀(i:Nat)(x:V)(H':Hp)(Z:V→Hp→Prop),i<n→a0 H1 H'→Item i x H'→(∀(p:Addr)(r:List Int)(H4:Hp),a0 H' H4→H' p=none→out[i]? =some r→H4 p=some (.lst (r.map V.int))→Z (.ref p) H4)→
   g x (wipe σ vs) H' fun σ2 H2=>wipe σ2 vs=wipe σ vs∧te σ2 H2 Z)
  (hd: ∀H as,a0 H1 H→H D=some (.lst (as.map V.ref))→cb H as out→(∀b∈as,H1 b=none∧b≠D)→as.Nodup→Qd H):Ux J g MG te vs σ H1 D Qd:=by
 refine Dy S hn hD (fun i acc H=>∃as:List Addr,acc=as.map V.ref∧(∀b∈as,H1 b=none∧b≠D)∧as.Nodup∧as.length=i∧∀(j:Nat)(b:Addr),as[j]? =some b→∃r,out[j]? =some r∧H b=some (.lst (r.map V.int))) ⟨[],rfl,by simp,by simp,rfl,by simp⟩
  (fun i x H' acc Nx hi e ha hl p it nx=>?_) (fun _ _ _ _ e p=>?_) fun H ys e hy hl p=>?_
 ·obtain⟨as,rfl,df,xD,Dz,xH⟩:=p
  refine hs i x H' (fun y H4=>∃acc,H4 D=some (.lst acc)∧acc.length<sizeLine∧Nx (upd H4 D (.lst (acc++[y])))) hi e it fun q r H4 e4 hq ho h4=>?_
  have JX:q≠D:=fun e'=>(aK ha hq) e'.symm
  have Ln:H1 q=none:=by
   cases e5:H1 q with
   |none=>rfl
   |some u=>rw[e _ _ e5]at hq;cases hq
  refine⟨_,e4 _ _ ha,by rw[hl];have:=bD;omega,nx _ H4 (e4 _ _ ha) (e.trans e4) ⟨as++[q],by rw[bo];rfl,?_,?_,by rw[bC,Dz];rfl,?_⟩⟩
  ·intro b hb
   rcases bP.mp hb with hb|hb
   ·exact df b hb
   ·rw[aQ]at hb
    subst hb
    exact⟨Ln,JX⟩
  ·rw[qM]
   refine⟨xD,by simp,fun y hy z hz=>?_⟩
   rw[aQ]at hz
   subst hz
   obtain⟨j,hj⟩:=d6 hy
   obtain⟨r',_,h6⟩:=xH j y hj
   exact aK h6 hq
  ·intro j b hj
   by_cases Jz:j<as.length
   ·rw[dE Jz]at hj
    obtain⟨r',h5,h6⟩:=xH j b hj
    refine⟨r',h5,?_⟩
    rw[aE (df b (aL hj)).2]
    exact e4 _ _ h6
   ·rw[jb (by omega)]at hj
    have RY:j-as.length=0:=by
     have:=(aJ.mp hj).1
     simp at this
     omega
    rw[RY]at hj
    have DA:q=b:=by simpa using hj
    subst DA
    refine⟨r,?_,?_⟩
    ·rw[show j=i by omega];exact ho
    ·rw[aE JX]
     exact h4
 ·obtain⟨as,h1,h2,Xi,h3,h4⟩:=p
  refine⟨as,h1,h2,Xi,h3,fun j b hj=>?_⟩
  obtain⟨r,h5,h6⟩:=h4 j b hj
  exact⟨r,h5,e _ _ h6⟩
 ·obtain⟨as,rfl,df,xD,Dz,xH⟩:=p
  exact hd H as e hy (cb.JW as out (by rw[Dz,pY]) xH) df xD
def tD(H:Hp)(Q:VK)(ns:List Int):Prop:=∀(p:Addr)(H':Hp),a0 H H'→H p=none→H' p=some (.lst (ns.map V.int))→Q (.ref p) H'
def JY(H:Hp)(Q:VK)(rs:List (List Int)):Prop:=∀(p:Addr)(as:List Addr)(H':Hp),a0 H H'→H p=none→(∀b∈as,H b=none)→H' p=some (.lst (as.map V.ref))→cb H' as rs→Q (.ref p) H'
end GT
end
section
namespace GT
open PySem PySem.Spec PyProof.Rows L2
open Ch (ic gR pW mulR lZ qm md gy l0 jU gW)
structure Txt2(mg:Str→Option Value):Prop where
 sum:mg "sum"=none
 sorted:mg "sorted"=none
 reversed:mg "reversed"=none
 set:mg "set"=none
theorem yJ:bootBuiltins "sum"=some (.builtin "sum"):=by decide +kernel
theorem r8:bootBuiltins "sorted"=some (.builtin "sorted"):=by decide +kernel
theorem GL:bootBuiltins "set"=some (.type "set"):=by decide +kernel
section
variable{P:Program}{w:World}{K:W.Frag}{mg:Str→Option Value}{base:Heap}
def Aj:Sp:=fun vs H Q _=>∃(p:Nat)(_:NeZero p)(a:Int),vs=[.int a,.int (p:Nat)]∧gR p∧p≤100000∧Q (.int (gW p a)) H
theorem nt:bf ["number","prime","inverse","square","left"] ["number","prime"] (aB jo):=⟨rfl,rfl,rfl,by decide +kernel,rfl,by decide +kernel,by decide +kernel⟩
theorem MU{p:Nat} [NeZero p](s:Fin p)(l:Nat):Ch.pw (s*s) (l / 2)*(if l % 2=1 then s else 1)=Ch.pw s l:=by
 have h1: ∀k,Ch.pw (s*s) k=Ch.pw s (2*k):=by
  intro k
  induction k with
  |zero=>rfl
  |succ k ih=>
   rw[show 2*(k+1)=2*k+1+1 by omega,Ch.gT,ih,Ch.gT,Ch.gT]
   grind
 rw[h1]
 by_cases h:l % 2=1
 ·rw[aO h,←Ch.gT,show 2*(l / 2)+1=l by omega]
 ·rw[aI h,show 2*(l / 2)=l by omega]
  grind
theorem MV{f:Addr}{fd:FuncData}(F:f6 K "inverse_number" "inverse_number" jo f fd):cF P w K mg base fT 1 f fd ["number","prime"] Aj:=by
 refine F.ok nt (fun vs H Q E h=>?_) (fun eM A outer s H vs Q E hr h=>?_)
 ·obtain⟨p,_,a,rfl,_⟩:=h
  rfl
 ·obtain⟨p,hz,a,rfl,hp,Cm,k⟩:=h
  refine⟨_,ak (bI (i:=2) nt.nd rfl (Or.inl rfl) bG)
   (ak (bI (i:=3) nt.nd rfl (Or.inl rfl) (dF jV (pv 0) (pv 1)))
   (ak (bI (i:=4) nt.nd rfl (Or.inl rfl) (dF Qn (pv 1) bG))
   (ak (iT bx (cJ Oq (pv 4) bG (cW _))
    (ak (dR (cJ iE (dF jV (pv 4) bG) bG (cW _)) (aA (bI (i:=2) nt.nd rfl (Or.inl rfl) (dF jV (dF jm (pv 2) (pv 3)) (pv 1)))) cq)
    (ak (bI (i:=3) nt.nd rfl (Or.inl rfl) (dF jV (dF jm (pv 3) (pv 3)) (pv 1)))
    (aA (bI (i:=4) nt.nd rfl (Or.inl rfl) (dF Mn (pv 4) bG))))))
   (aA (a9 (pv 2)))))),?_⟩
  have uH:=hp.1
  have RW:(0:Int)<(p:Int):=by omega
  refine⟨_,rfl,_,rfl,_,_,rfl,rfl,RW,_,rfl,_,_,rfl,rfl,?_⟩
  refine⟨fun m σ H'=>∃(i s l:Int),σ=[some (.int a),some (.int (p:Nat)),some (.int i),some (.int s),some (.int l)]∧H'=H∧0≤i∧i<p∧0≤s∧s<p∧0≤l∧l≤p∧m=l.toNat∧(ic i:Fin p)*Ch.pw (ic s) l.toNat=Ch.pw (ic a) (p-2),
   ⟨_,1,a % (p:Int),(p:Int)-2,rfl,rfl,by omega,by omega,(Ch.fM a).1,(Ch.fM a).2,by omega,by omega,rfl,?_⟩,?_⟩
  ·rw[Ch.Ip,Ch.mV,show((p:Int)-2).toNat=p-2 by omega]
   grind
  rintro m σ H' ⟨i,s,l,rfl,rfl,VY,hi1,hs0,hs1,SY,Cn,rfl,heq⟩
  refine⟨_,rfl,_,_,rfl,rfl,_,rfl,?_⟩
  refine gA (fun QU=>?_) (fun hle=>?_)
  ·have hl:0<l:=of_decide_eq_true QU
   refine⟨fun σ' yH=>∃(i' s' l':Int),σ'=[some (.int a),some (.int (p:Nat)),some (.int i'),some (.int s'),some (.int l')]∧yH=H'∧0≤i'∧i'<p∧0≤s'∧s'<p∧l'=l / 2∧(ic i':Fin p)*Ch.pw (ic s') (l / 2).toNat=Ch.pw (ic a) (p-2),?_,?_⟩
   ·rintro σ' yH ⟨i',s',l',rfl,rfl,g1,g2,g3,g4,rfl,g5⟩
    exact⟨(l / 2).toNat,by omega,i',s',l / 2,rfl,rfl,g1,g2,g3,g4,by omega,by omega,rfl,g5⟩
   ·have E7:=MU (ic s:Fin p) l.toNat
    have oE:(l / 2).toNat=l.toNat / 2:=by omega
    have hss:(ic (s*s % (p:Int)):Fin p)=ic s*ic s:=by rw[Ch.mV,Ch.sN]
    refine⟨_,rfl,_,_,rfl,rfl,(by show(0:Int)<2;decide),rfl,_,rfl,?_⟩
    refine gA (fun YU=>?_) (fun UH=>?_)
    ·have ho:V.int (l % 2)=V.int 1:=of_decide_eq_true YU
     injection ho with ho
     have zJ:l.toNat % 2=1:=by omega
     rw[aO zJ]at E7
     refine⟨_,rfl,_,rfl,_,_,rfl,rfl,.inl ⟨by omega,by omega⟩,_,rfl,_,_,rfl,rfl,RW,?_⟩
     refine⟨_,rfl,_,rfl,_,_,rfl,rfl,.inl ⟨by omega,by omega⟩,_,rfl,_,_,rfl,rfl,RW,?_⟩
     refine⟨_,rfl,_,_,rfl,rfl,⟨by decide,by decide⟩,?_⟩
     refine⟨_,_,_,rfl,rfl,(Ch.fM _).1,(Ch.fM _).2,(Ch.fM _).1,(Ch.fM _).2,rfl,?_⟩
     rw[hss,Ch.mV,Ch.sN,oE,←heq,←E7]
     grind
    ·have zJ: ¬l.toNat % 2=1:=by
      intro h1
      apply UH
      have:l % 2=1:=by omega
      show decide (V.int (l % 2)=V.int 1)=true
      rw[this]
      rfl
     rw[aI zJ]at E7
     refine⟨_,rfl,_,rfl,_,_,rfl,rfl,.inl ⟨by omega,by omega⟩,_,rfl,_,_,rfl,rfl,RW,?_⟩
     refine⟨_,rfl,_,_,rfl,rfl,⟨by decide,by decide⟩,?_⟩
     refine⟨_,_,_,rfl,rfl,VY,hi1,(Ch.fM _).1,(Ch.fM _).2,rfl,?_⟩
     rw[hss,oE,←heq,←E7]
     grind
  ·have hl:l=0:=by
    have: ¬((0:Int)<l):=fun q=>hle (decide_eq_true q)
    omega
   subst hl
   have h1:(ic i:Fin p)=Ch.pw (ic a) (p-2):=by
    rw[←heq]
    show _=ic i*1
    grind
   have h2:i=gW p a:=by
    apply Ch.vV VY hi1 (Ch.Bc a).1 (Ch.Bc a).2
    rw[h1,gW,Ch.CU]
   rw[←h2]at k
   exact⟨_,rfl,k⟩
def E8(K:W.Frag):Sp:=fun vs H Q _=>∃(p:Nat)(v:V)(ns:List Int)(f:Int),vs=[v,.int f,.int (p:Nat)]∧IL K H v ns∧0<p∧(∀x∈ns,0≤x∧x<1000000)∧ns.length≤1000∧tD H Q (mulR p ns f)
theorem qh:bf ["row","factor","prime","number"] ["row","factor","prime"] (aB mY):=⟨rfl,rfl,rfl,by decide +kernel,rfl,by decide +kernel,by decide +kernel⟩
theorem QX{f:Addr}{fd:FuncData}(F:f6 K "multiple" "multiple" mY f fd):cF P w K mg base fT 1 f fd ["row","factor","prime"] (E8 K):=by
 refine F.ok qh (fun vs H Q E h=>?_) (fun eM A outer s H vs Q E hr h=>?_)
 ·obtain⟨p,v,ns,f,rfl,_⟩:=h
  rfl
 ·obtain⟨p,v,ns,f,rfl,⟨a,rfl,ha⟩,hp,hb,hn,k⟩:=h
  refine⟨_,aA (a9 (je rfl qh.nd (d8 (pv 0)) (own:=[("number",3)]) (cB (by show ij ["row","factor","prime","number"] (aB mY) _ _=true;decide +kernel))
   (fun s H C cl fp=>bE (i:=3) qh.nd rfl (Or.inl rfl)) (fun s H C cl fp=>cZ)
   (fun s H C cl fp=>dF jV (dF jm (pv 3) (pv 1)) (pv 2)))),?_⟩
  refine⟨_,rfl,a,rfl,⟨_,ha⟩,fun D hD=>eg (iG ha) (by rw[ae];omega) hD ((mulR p ns f).map V.int) (by simp[mulR]) ?_ ?_⟩
  ·intro i x H' Z hi e it z
   obtain⟨n,IV,rfl⟩:=er it
   have:=hb n (aL IV)
   refine⟨rfl,_,rfl,_,rfl,_,_,rfl,rfl,.inl ⟨by omega,by omega⟩,_,rfl,_,_,rfl,rfl,(by show(0:Int)<(p:Int);omega),z _ _ a0.refl ?_⟩
   rw[mulR,aU,ag,IV]
   rfl
  ·intro H' e rY
   exact k _ _ e hD rY
def QY(K:W.Frag):Sp:=fun vs H Q _=>∃(p:Nat)(v u:V)(ns ms:List Int)(f:Int),vs=[v,.int f,u,.int (p:Nat)]∧IL K H v ns∧IL K H u ms∧0<p∧(∀x∈ms,0≤x∧x<1000000)∧ns.length≤1000∧ns.length=ms.length∧tD H Q (lZ p ns f ms)
theorem E9:bf ["row","factor","other","prime","number","added"] ["row","factor","other","prime"] (aB g9):=⟨rfl,rfl,rfl,by decide +kernel,rfl,by decide +kernel,by decide +kernel⟩
theorem UI{f:Addr}{fd:FuncData}(F:f6 K "with_multiple" "with_multiple" g9 f fd)(T:Txt mg):cF P w K mg base fT 1 f fd ["row","factor","other","prime"] (QY K):=by
 refine F.ok E9 (fun vs H Q E h=>?_) (fun eM A outer s H vs Q E hr h=>?_)
 ·obtain⟨p,v,u,ns,ms,f,rfl,_⟩:=h
  rfl
 ·obtain⟨p,v,u,ns,ms,f,rfl,⟨a,rfl,ha⟩,⟨b,rfl,ke⟩,hp,hb,hn,hl,k⟩:=h
  refine⟨_,aA (a9 (je rfl E9.nd (wF rfl T.zip (ah (pv 0) (ah (pv 2) ax))) (own:=[("number",4),("added",5)]) (cB (by show ij ["row","factor","other","prime","number","added"] (aB g9) _ _=true;decide +kernel))
   (g:=xS K 2 (iS (gM 4) (iS (gM 5) xR))) (fun s H C cl fp=>lQ rfl (dz (bE (i:=4) E9.nd rfl (Or.inl rfl) (.inr rfl)) (dz (bE (i:=5) E9.nd rfl (Or.inl rfl) (.inr rfl)) jy))) (fun s H C cl fp=>cZ)
   (fun s H C cl fp=>dF jV (dF kF (pv 4) (dF jm (pv 1) (pv 5))) (pv 3)))),?_⟩
  refine⟨_,rfl,_,rfl,a,b,_,_,rfl,ha,ke,fun D hD=>eg (EU ha ke (by rw[ae,ae,hl])) (by rw[ae];omega) hD ((lZ p ns f ms).map V.int) (by simp[lZ,hl]) ?_ ?_⟩
  ·rintro i x H' Z hi e ⟨Tt,x1,x2,rfl,h1,h2,hT⟩ z
   obtain⟨n,IV,rfl⟩:=er h1
   obtain⟨m,Wm,rfl⟩:=er h2
   have:=hb m (aL Wm)
   refine⟨Tt,_,rfl,.inl (.inl hT),rfl,_,_,rfl,_,_,rfl,rfl,rfl,_,rfl,_,rfl,_,rfl,_,_,rfl,rfl,.inr ⟨by omega,by omega⟩,_,_,rfl,rfl,_,rfl,_,_,rfl,rfl,(by show(0:Int)<(p:Int);omega),z _ _ a0.refl ?_⟩
   rw[lZ,ag,xq,IV,Wm]
   rfl
  ·intro H' e rY
   exact k _ _ e hD rY
def JZ(K:W.Frag):Sp:=fun vs H Q _=>∃(v u:V)(ns ms:List Int),vs=[v,u]∧IL K H v ns∧IL K H u ms∧(∀x∈ns,0≤x∧x<1000000)∧ns.length≤1000∧ns.length=ms.length∧∀H',a0 H H'→Q (.int (qm ns ms)) H'
theorem Ak:bf ["row","other","number","matched"] ["row","other"] (aB fX):=⟨rfl,rfl,rfl,by decide +kernel,rfl,by decide +kernel,by decide +kernel⟩
theorem QZ{f:Addr}{fd:FuncData}(F:f6 K "sum_of_products" "sum_of_products" fX f fd)(T:Txt mg)(T2:Txt2 mg):cF P w K mg base fT 1 f fd ["row","other"] (JZ K):=by
 refine F.ok Ak (fun vs H Q E h=>?_) (fun eM A outer s H vs Q E hr h=>?_)
 ·obtain⟨v,u,ns,ms,rfl,_⟩:=h
  rfl
 ·obtain⟨v,u,ns,ms,rfl,⟨a,rfl,ha⟩,⟨b,rfl,ke⟩,hb,hn,hl,k⟩:=h
  refine⟨_,aA (a9 (bZ (Jv rfl) (by rfl) T2.sum yJ (ah (je rfl Ak.nd (wF rfl T.zip (ah (pv 0) (ah (pv 1) ax))) (own:=[("number",2),("matched",3)]) (cB (by show ij ["row","other","number","matched"] (aB fX) _ _=true;decide +kernel))
   (g:=xS K 2 (iS (gM 2) (iS (gM 3) xR))) (fun s H C cl fp=>lQ rfl (dz (bE (i:=2) Ak.nd rfl (Or.inl rfl) (.inr rfl)) (dz (bE (i:=3) Ak.nd rfl (Or.inl rfl) (.inr rfl)) jy))) (fun s H C cl fp=>cZ)
   (fun s H C cl fp=>dF jm (pv 2) (pv 3))) ax))),?_⟩
  refine⟨_,rfl,_,rfl,a,b,_,_,rfl,ha,ke,fun D hD=>eg (EU ha ke (by rw[ae,ae,hl])) (by rw[ae];omega) hD ((List.zipWith (fun x y=>x*y) ns ms).map V.int) (by simp[hl]) ?_ ?_⟩
  ·rintro i x H' Z hi e ⟨Tt,x1,x2,rfl,h1,h2,hT⟩ z
   obtain⟨n,IV,rfl⟩:=er h1
   obtain⟨m,Wm,rfl⟩:=er h2
   have:=hb n (aL IV)
   refine⟨Tt,_,rfl,.inl (.inl hT),rfl,_,_,rfl,_,_,rfl,rfl,rfl,_,rfl,_,rfl,_,_,rfl,rfl,.inl ⟨by omega,by omega⟩,z _ _ a0.refl ?_⟩
   rw[ag,xq,IV,Wm]
   rfl
  ·intro H' e rY
   exact⟨D,_,rfl,cy.of rY,k _ e⟩
end
end GT
end
section
namespace GT
open PySem PySem.Spec PyProof.Rows L2
open Ch (ic gR pW mulR lZ qm md gy l0 jU gW)
theorem J0(xs:List V)(m:Nat):sY xs (some (m:Nat)) none=xs.drop m:=by
 unfold sY
 rw[HT.uM]
 have h:HT.AI xs.length xs.length none=xs.length:=rfl
 rw[h]
 rcases Nat.le_total m xs.length with h1|h1
 ·rw[u0 h1,fh]
  rw[eF]
  exact aq _
 ·rw[Nat.min_eq_right h1,k9 (aq _),k9 h1,List.take_nil]
theorem J1(xs:List V)(m:Nat):sY xs none (some (m:Nat))=xs.take m:=by
 unfold sY
 rw[HT.uM]
 have h:HT.AI xs.length 0 none=0:=rfl
 rw[h,List.drop_zero,Nat.sub_zero]
 rcases Nat.le_total m xs.length with h1|h1
 ·rw[u0 h1]
 ·rw[Nat.min_eq_right h1,gL,fh h1]
theorem J2{K:W.Frag}{a:Addr}{xs:List V}:GK (Yl K a xs.length) xs.length (fun i x _=>xs.reverse[i]? =some x) (fun H=>cy K H a xs) where
 go:=fun i H e hi=>⟨hi,xs,xs[xs.length-1-i],e,by rw[aj]⟩
 stop:=fun H e=>aq _
 uu:=fun i H x H' e hi y=>by
  obtain⟨e1,y⟩:=y
  subst e1
  refine⟨a0.refl,?_⟩
  rw[List.getElem?_reverse hi]
  exact y xs e
section
variable{P:Program}{w:World}{K:W.Frag}{mg:Str→Option Value}{base:Heap}
def OE(K:W.Frag):Sp:=fun vs H Q _=>∃(p:Nat)(v u:V)(m:List (List Int))(ns:List Int),vs=[v,u,.int (p:Nat)]∧TL K H v m∧IL K H u ns∧0<p∧(∀r∈m,r.length=ns.length∧∀x∈r,0≤x∧x<1000000)∧ns.length≤1000∧m.length≤1000∧tD H Q (md p m ns)
theorem DF:bf ["matrix","row","prime","entries"] ["matrix","row","prime"] (aB mZ):=⟨rfl,rfl,rfl,by decide +kernel,rfl,by decide +kernel,by decide +kernel⟩
theorem Q0{f:Addr}{fd:FuncData}(F:f6 K "image_of" "image_of" mZ f fd)(c1:iJ P w K mg base 1 "sum_of_products" ["row","other"] (JZ K)):cF P w K mg base fT 2 f fd ["matrix","row","prime"] (OE K):=by
 refine F.ok DF (fun vs H Q E h=>?_) (fun eM A outer s H vs Q E hr h=>?_)
 ·obtain⟨p,v,u,m,ns,rfl,_⟩:=h
  rfl
 ·obtain⟨p,v,u,m,ns,rfl,⟨a,as,rfl,ha,kf⟩,⟨b,rfl,ke⟩,hp,hm,hn,yw,k⟩:=h
  refine⟨_,aA (a9 (je rfl DF.nd (d8 (pv 0)) (own:=[("entries",3)]) (cB (by show ij ["matrix","row","prime","entries"] (aB mZ) _ _=true;decide +kernel))
   (fun s H C cl fp=>bE (i:=3) DF.nd rfl (Or.inl rfl)) (fun s H C cl fp=>cZ)
   (te:=Ey _ (rO (JZ K) [] E0 _) _) (fun s H C cl fp=>dF jV (bQ c1 hr rfl (ah (pv 3) (ah (pv 1) ax))) (pv 2)))),?_⟩
  have hlen:=kf.len
  refine⟨_,rfl,a,rfl,⟨_,ha⟩,fun D hD=>eg (iG ha) (by rw[ae];omega) hD ((md p m ns).map V.int) (by simp[md,hlen]) ?_ ?_⟩
  ·intro i x H' Z hi e it z
   obtain⟨c,hc,rfl⟩:=er it
   obtain⟨r,iF,i9⟩:=kf.at_ hc
   obtain⟨g1,g2⟩:=hm r (aL iF)
   refine⟨rfl,_,rfl,_,rfl,_,_,r,ns,rfl,⟨c,rfl,e.seq i9⟩,⟨b,rfl,e.seq ke⟩,g2,by omega,g1,fun H2 e2=>⟨_,rfl,_,_,rfl,rfl,(by show(0:Int)<(p:Int);omega),z _ _ e2 ?_⟩⟩
   rw[md,aU,ag,iF]
   rfl
  ·intro H' e rY
   exact k _ _ e hD rY
theorem tE(p:Nat)(l:List Int)(x:Int): ∀r:List Int,gy p r x=r.reverse.foldl (fun v a=>(v*x+a) % (p:Int)) 0:=by
 intro r
 rw[gy,List.foldl_reverse]
def Fb(K:W.Frag):Sp:=fun vs H Q _=>∃(p:Nat)(v:V)(ns:List Int)(x:Int),vs=[v,.int x,.int (p:Nat)]∧IL K H v ns∧0<p∧p≤100000∧∀H',a0 H H'→Q (.int (gy p ns x)) H'
theorem Al:bf ["polynomial","place","prime","value","number"] ["polynomial","place","prime"] (aB qw):=⟨rfl,rfl,rfl,by decide +kernel,rfl,by decide +kernel,by decide +kernel⟩
theorem wN{p:Nat}(hp:0<p)(l:List Int)(x:Int):0≤l.foldl (fun v a=>(v*x+a) % (p:Int)) 0∧l.foldl (fun v a=>(v*x+a) % (p:Int)) 0<p:=by
 have:NeZero p:=⟨by omega⟩
 have h:=Ch.v8 (p:=p) l.reverse x
 rw[tE p [] x,List.reverse_reverse]at h
 exact h
theorem Q1{f:Addr}{fd:FuncData}(F:f6 K "value_at" "value_at" qw f fd)(T2:Txt2 mg):cF P w K mg base fT 1 f fd ["polynomial","place","prime"] (Fb K):=by
 refine F.ok Al (fun vs H Q E h=>?_) (fun eM A outer s H vs Q E hr h=>?_)
 ·obtain⟨p,v,ns,x,rfl,_⟩:=h
  rfl
 ·obtain⟨p,v,ns,x,rfl,⟨a,rfl,ha⟩,hp,Cm,k⟩:=h
  refine⟨_,ak (bI (i:=3) Al.nd rfl (Or.inl rfl) bG)
   (ak (gc bx rfl (uh rfl T2.reversed (ah (pv 0) ax)) (bE (i:=4) Al.nd rfl (Or.inl rfl))
    (aA (bI (i:=3) Al.nd rfl (Or.inl rfl) (dF jV (dF kF (dF jm (pv 3) (pv 1)) (pv 4)) (pv 2)))))
   (aA (a9 (pv 3)))),?_⟩
  refine⟨_,rfl,a,_,rfl,ha,jt (J2 (K:=K) (a:=a) (xs:=ns.map V.int)) (fun i σ H'=>∃v:Option V,σ=[some (.ref a),some (.int x),some (.int (p:Nat)),some (.int ((ns.reverse.take i).foldl (fun v a=>(v*x+a) % (p:Int)) 0)),v]∧a0 H H')
   ⟨none,rfl,a0.refl⟩ (fun i σ H'⟨_,_,e⟩=>e.seq ha) ?_ ?_⟩
  ·rintro i y σ H1 H2 hi ⟨v,rfl,e0⟩ e it
   rw[←tQ]at it
   obtain⟨n,hn,rfl⟩:=er it
   have hc:=wN hp (ns.reverse.take i) x
   refine⟨_,rfl,_,rfl,_,_,rfl,rfl,.inl ⟨by omega,by omega⟩,_,rfl,_,_,rfl,rfl,_,rfl,_,_,rfl,rfl,(by show(0:Int)<(p:Int);omega),some (.int n),?_,e0.trans e⟩
   rw[gh hn,iL]
   rfl
  ·rintro σ H1 ⟨v,rfl,e0⟩
   refine⟨_,rfl,?_⟩
   rw[ae,←List.length_reverse (as:=ns),gL,←tE p [] x]
   exact k _ e0
def bj(l:List Nat):List Int:=l.map fun(x:Nat)=>(x:Int)
def Fc(K:W.Frag):Sp:=fun vs H Q _=>∃(p:Nat)(v:V)(ns:List Int),vs=[v,.int (p:Nat)]∧IL K H v ns∧0<p∧p≤100000∧tD H Q (bj (jU p ns))
theorem wO:bf ["polynomial","prime","place"] ["polynomial","prime"] (aB m5):=⟨rfl,rfl,rfl,by decide +kernel,rfl,by decide +kernel,by decide +kernel⟩
theorem J3{f:Addr}{fd:FuncData}(F:f6 K "zeros_of" "zeros_of" m5 f fd)(T:Txt mg)(c1:iJ P w K mg base 1 "value_at" ["polynomial","place","prime"] (Fb K)):cF P w K mg base fT 2 f fd ["polynomial","prime"] (Fc K):=by
 refine F.ok wO (fun vs H Q E h=>?_) (fun eM A outer s H vs Q E hr h=>?_)
 ·obtain⟨p,v,ns,rfl,_⟩:=h
  rfl
 ·obtain⟨p,v,ns,rfl,⟨a,rfl,ha⟩,hp,Cm,k⟩:=h
  refine⟨_,aA (a9 (je rfl wO.nd (fQ rfl T.range (ah (pv 1) ax)) (own:=[("place",2)]) (cB (by show ij ["polynomial","prime","place"] (aB m5) _ _=true;decide +kernel))
   (fun s H C cl fp=>bE (i:=2) wO.nd rfl (Or.inl rfl)) (tt:=EC (Ey rEq (rO (Fb K) [] E0 _) _)) (fun s H C cl fp=>EJ (cJ iE (bQ c1 hr rfl (ah (pv 0) (ah (pv 2) (ah (pv 1) ax)))) bG (cW _)))
   (fun s H C cl fp=>pv 2))),?_⟩
  have rZ:((p:Nat):Int).toNat=p:=aY p
  refine⟨_,rfl,_,rfl,by omega,by omega,fun D hD=>E6 pk (by rw[rZ];omega) hD (fun i=>gy p ns (i:Int)==0) (fun i=>.int ((i:Nat):Int)) ?_ ?_⟩
  ·rintro i x H' Z N hi e rfl hz hn
   refine⟨rfl,_,rfl,_,rfl,_,rfl,p,_,ns,(i:Int),?_,⟨a,rfl,e.seq ha⟩,hp,Cm,fun H2 e2=>⟨rfl,_,rfl,?_⟩⟩
   ·rw[fj]
    rfl
   ·refine gA (fun hb=>?_) (fun hb=>?_)
    ·have h1:V.int (gy p ns (i:Int))=V.int 0:=of_decide_eq_true hb
     injection h1 with h1
     refine⟨_,rfl,?_⟩
     rw[fj]
     exact hz (by simpa using h1) _ e2
    ·refine hn ?_ _ e2
     cases h2:gy p ns (i:Int)==0 with
     |false=>rfl
     |true=>
      exfalso
      apply hb
      show decide (V.int (gy p ns (i:Int))=V.int 0)=true
      rw[eq_of_beq h2]
      rfl
  ·intro H' e rY
   refine k _ _ e hD ?_
   rw[rY,rZ,bj,jU,aU]
   rfl
theorem J4(p:Nat)(z:Int): ∀l:List Int,(l0 p z l)=(List.range l.length).map fun i=>gy p (l.drop i) z
 |[]=>rfl
 |a::t=>by
  rw[l0,J4 p z t,aC,ej,a6,aU]
  rfl
def UJ(K:W.Frag):Sp:=fun vs H Q _=>∃(p:Nat)(v:V)(ns:List Int)(z:Int),vs=[v,.int z,.int (p:Nat)]∧IL K H v ns∧0<p∧p≤100000∧ns.length≤1000∧ns≠[]∧tD H Q (l0 p z ns.tail)
theorem BQ:bf ["polynomial","zero","prime","quotient","value","number"] ["polynomial","zero","prime"] (aB kH):=⟨rfl,rfl,rfl,by decide +kernel,rfl,by decide +kernel,by decide +kernel⟩
theorem UK{f:Addr}{fd:FuncData}(F:f6 K "without_zero" "without_zero" kH f fd)(T2:Txt2 mg):cF P w K mg base fT 1 f fd ["polynomial","zero","prime"] (UJ K):=by
 refine F.ok BQ (fun vs H Q E h=>?_) (fun eM A outer s H vs Q E hr h=>?_)
 ·obtain⟨p,v,ns,z,rfl,_⟩:=h
  rfl
 ·obtain⟨p,v,ns,z,rfl,⟨a,rfl,ha⟩,hp,Cm,oj,df,k⟩:=h
  refine⟨_,ak (bI (i:=3) BQ.nd rfl (Or.inl rfl) (gd ax))
   (ak (bI (i:=4) BQ.nd rfl (Or.inl rfl) bG)
   (ak (gc bx rfl (uh rfl T2.reversed (ah (mi pL (pv 0) (kj bG) zT) ax)) (bE (i:=5) BQ.nd rfl (Or.inl rfl))
    (ak (bI (i:=4) BQ.nd rfl (Or.inl rfl) (dF jV (dF kF (dF jm (pv 4) (pv 1)) (pv 5)) (pv 2)))
    (aA (gz (lA bF dN dO jn (pv 3) (ah (pv 4) ax))))))
   (ak (gz (Qv bF PySem.F.slot_list_reverse PySem.F.type_list_reverse Dq (pv 3)))
   (aA (a9 (pv 3)))))),?_⟩
  refine⟨by show 0≤sizeLine;exact bB _,fun q hq=>?_⟩
  have eq1:a0 H (upd H q (.lst [])):=bq hq
  refine⟨_,rfl,_,rfl,a,_,rfl,eq1.seq ha,fun b hb=>?_⟩
  have DA:q≠b:=aK au hb
  have YV:sY (ns.map V.int) (some 1) none=ns.tail.map V.int:=by
   have:=J0 (ns.map V.int) 1
   rw[←so,List.drop_one]at this
   exact this
  rw[YV]
  refine⟨b,_,rfl,cy.of au,jt (J2 (K:=K) (a:=b) (xs:=ns.tail.map V.int)) (fun i σ H'=>∃v:Option V,σ=[some (.ref a),some (.int z),some (.int (p:Nat)),some (.ref q),some (.int ((ns.tail.reverse.take i).foldl (fun v a=>(v*z+a) % (p:Int)) 0)),v]∧a0 H H'∧H' b=some (.lst (ns.tail.map V.int))∧
   H' q=some (.lst (((List.range i).map fun j=>(ns.tail.reverse.take (j+1)).foldl (fun v a=>(v*z+a) % (p:Int)) 0).map V.int)))
   ⟨none,rfl,eq1.trans (bq hb),au,?_⟩ (fun i σ H'⟨_,_,_,e,_⟩=>cy.of e) ?_ ?_⟩
  ·rw[aE DA,au]
   rfl
  ·rintro i y σ H1 H2 hi ⟨v,rfl,e0,e2,e3⟩ e it
   rw[←tQ]at it
   obtain⟨n,hn,rfl⟩:=er it
   have hc:=wN hp (ns.tail.reverse.take i) z
   refine⟨_,rfl,_,rfl,_,_,rfl,rfl,.inl ⟨by omega,by omega⟩,_,rfl,_,_,rfl,rfl,_,rfl,_,_,rfl,rfl,(by show(0:Int)<(p:Int);omega),?_⟩
   refine⟨_,rfl,.inl ⟨rfl,_,cy.of (e _ _ e3)⟩,_,rfl,q,_,_,rfl,rfl,e _ _ e3,?_,some (.int n),?_,?_,?_,?_⟩
   ·rw[ae,ae,bh]
    rw[ae,List.length_tail]at hi
    have:=bD
    omega
   ·rw[gh hn,iL]
    rfl
   ·exact a0.fO hq (e0.trans e)
   ·rw[aE (fun h=>DA h.symm)]
    exact e _ _ e2
   ·rw[au,cQ,bo,bo,a6,jw,a6,jw,gh hn,iL]
    rfl
  ·rintro σ H1 ⟨v,rfl,e0,e2,e3⟩
   refine⟨_,rfl,.inl ⟨rfl,_,cy.of e3⟩,q,_,rfl,rfl,e3,_,rfl,?_⟩
   refine k _ _ (a0.fO hq e0) hq ?_
   rw[au,←tQ]
   congr 3
   rw[J4,ae,←tQ]
   apply bO (by simp)
   intro i h1 h2
   simp only[ae,bh,List.length_reverse]at h1 h2
   simp only[bY,cM,List.getElem_reverse,ae,bh]
   rw[tE p [] z,List.take_reverse]
   congr 3
   omega
end
end GT
end
section
namespace GT
open PySem PySem.Spec PyProof.Rows L2
open Ch (ic gR pW mulR lZ qm md gy l0 jU gW nW ye marks PQ)
def jX(P:Program)(w:World)(K:W.Frag)(mg:Str→Option Value)(base:Heap)(k:Nat)(C:Addr)(m:Str)(ps:List Str)(sp:Sp):Prop:=
 ∃(f:Addr)(fd:FuncData),Meth K C m f∧Binds K fd ps []∧cF P w K mg base fT k f fd ps sp
theorem eW{X:Cx}{k:Nat}{C:Addr}{m:Str}{ps:List Str}{sp:Sp}{apos pos:Pos}{o e:Expr}{es:List Expr}{ta:TE}{t:TA}{pl:Sem Bool}(M:jX X.prog X.w X.K X.mg X.base k C m ps sp)(c:Bw X.K C)(hr:dY k X.A)(he:PE X o ta)(ha:PA X (e::es) t)
  (Lu:starEach (e::es) X.env=(false,eval e X.env)::starEach es X.env:=by rfl)(n9:(backTo pos (starEach es X.env)).any (·.1)=false:=by rfl)
  (ht:eval (.Call (.Attribute o m apos) (e::es) [] pos) X.env=(do
   let ov←eval o X.env
   standAt apos.atName
   let (f,first) ←holding [ov] (getMethod ov m pl)
   callWith pos f first (backTo pos (starEach (e::es) X.env)) (backToKw pos (keywordEach [] X.env))):=by rfl):
  PE X (.Call (.Attribute o m apos) (e::es) [] pos) (yo C m sp [] E0 ta t):=by
 obtain⟨f,fd,h1,h2,h3⟩:=M
 exact Mt (pl:=pl) he c h1 h3 hr h2 .nil yy ha Lu n9 ht
theorem eX{X:Cx}{k:Nat}{C:Addr}{m:Str}{ps:List Str}{sp:Sp}{apos pos:Pos}{o:Expr}{ta:TE}{pl:Sem Bool}(M:jX X.prog X.w X.K X.mg X.base k C m ps sp)(c:Bw X.K C)(hr:dY k X.A)(he:PE X o ta)
  (ht:eval (.Call (.Attribute o m apos) [] [] pos) X.env=(do
   let ov←eval o X.env
   standAt apos.atName
   let (f,first) ←holding [ov] (getMethod ov m pl)
   callWith pos f first (backTo pos (starEach [] X.env)) (backToKw pos (keywordEach [] X.env))):=by rfl):
  PE X (.Call (.Attribute o m apos) [] [] pos) (yo C m sp [] E0 ta zQ):=by
 obtain⟨f,fd,h1,h2,h3⟩:=M
 exact Jj (pl:=pl) he c h1 h3 hr h2 .nil yy ht
def BR(P:Program)(w:World)(K:W.Frag)(mg:Str→Option Value)(base:Heap)(k:Nat)(x:Str)(C:Addr)(ps:List Str)(sp:Sp):Prop:=
 ∃(f:Addr)(fd:FuncData),mg x=some (.ref C)∧Mk K C f∧Binds K fd ps []∧cF P w K mg base fT k f fd ps sp
theorem uR{X:Cx}{k:Nat}{x:Str}{C:Addr}{ps:List Str}{sp:Sp}{p pos:Pos}{e:Expr}{es:List Expr}{t:TA}(M:BR X.prog X.w X.K X.mg X.base k x C ps sp)(hr:dY (k+1) X.A)(hg:Gl X x)(ha:PA X (e::es) t)
  (zS:(x==("__debug__":Str))=false:=by decide)(he:starEach (e::es) X.env=(false,eval e X.env)::starEach es X.env:=by rfl)(n9:(backTo pos (starEach es X.env)).any (·.1)=false:=by rfl):
  PE X (.Call (.Name x p) (e::es) [] pos) (ED C sp [] E0 t):=by
 obtain⟨f,fd,h1,h2,h3,h4⟩:=M
 exact Mu h2 h4 hr hg h1 h3 .nil yy ha zS he n9
theorem J5{X:Cx}{k:Nat}{x:Str}{C:Addr}{ps:List Str}{sp:Sp}{p pos:Pos}(M:BR X.prog X.w X.K X.mg X.base k x C ps sp)(hr:dY (k+1) X.A)(hg:Gl X x)
  (zS:(x==("__debug__":Str))=false:=by decide):PE X (.Call (.Name x p) [] [] pos) (ED C sp [] E0 zQ):=by
 obtain⟨f,fd,h1,h2,h3,h4⟩:=M
 exact Jl h2 h4 hr hg h1 h3 .nil yy zS
def MW(L p:Nat)(ar ac ap:Addr):List (Str×V):=[("length",.int (L:Nat)),("prime",.int (p:Nat)),("rows",.ref ar),("cleared",.ref ac),("pivots",.ref ap)]
structure DG(K:W.Frag)(C:Addr):Prop where
 cl:Bw K C
 nL:ez K C "length"
 nP:ez K C "prime"
 nR:ez K C "rows"
 nC:ez K C "cleared"
 nV:ez K C "pivots"
structure BS(C:Addr)(H:Hp)(q:Addr)(L p:Nat)(ar ac ap:Addr)(l4 asc:List Addr)(rows:List (List Int))(cl:List (List Int))(pv:List Nat):Prop where
 ins: ∃dx,H q=some (.ins C dx (MW L p ar ac ap))
 hr:H ar=some (.lst (l4.map V.ref))
 rws:cb H l4 rows
 hc:H ac=some (.lst (asc.map V.ref))
 cls:cb H asc cl
 hp:H ap=some (.lst ((bj pv).map V.int))
def Fd(C:Addr):Sp:=fun vs H Q _=>∃(q dx:Addr)(L p:Nat),vs=[.ref q,.int (L:Nat),.int (p:Nat)]∧H q=some (.ins C dx [])∧∀(H':Hp)(ar ac ap:Addr),ie q H H'→H ar=none→H ac=none→H ap=none→ar≠ac→ar≠ap→ac≠ap→BS C H' q L p ar ac ap [] [] [] [] []→Q .fC H'
section
variable{P:Program}{w:World}{K:W.Frag}{mg:Str→Option Value}{base:Heap}
theorem J6:bf ["self","length","prime"] ["self","length","prime"] (aB nh):=⟨rfl,rfl,rfl,by decide +kernel,rfl,by decide +kernel,by decide +kernel⟩
theorem J7{f C:Addr}{fd:FuncData}(F:f6 K "__init__" "Chain.__init__" nh f fd)(R:DG K C):cF P w K mg base fT 1 f fd ["self","length","prime"] (Fd C):=by
 refine F.ok J6 (fun vs H Q E h=>?_) (fun eM A outer s H vs Q E hr h=>?_)
 ·obtain⟨q,dx,L,p,rfl,_⟩:=h
  rfl
 ·obtain⟨q,dx,L,p,rfl,hq,k⟩:=h
  refine⟨_,ak (fu (pv 0) (pv 1) rfl) (ak (fu (pv 0) (pv 2) rfl) (ak (fu (pv 0) (gd ax) rfl) (ak (fu (pv 0) (gd ax) rfl) (aA (fu (pv 0) (gd ax) rfl))))),?_⟩
  refine⟨_,rfl,_,rfl,q,C,dx,[],rfl,hq,R.cl,R.nL,(by show 0<1000;decide),?_⟩
  refine⟨_,rfl,_,rfl,q,C,dx,_,rfl,au,R.cl,R.nP,(by show 1<1000;decide),?_⟩
  refine⟨bB _,fun ar Fe=>?_⟩
  have n1:q≠ar:=aK au Fe
  refine⟨_,rfl,q,C,dx,_,rfl,(by rw[aE n1,au]),R.cl,R.nR,(by show 2<1000;decide),?_⟩
  refine⟨bB _,fun ac HA=>?_⟩
  have n2:q≠ac:=aK au HA
  have n3:ar≠ac:=aK (o:=.lst []) (by rw[aE n1.symm,au]) HA
  refine⟨_,rfl,q,C,dx,_,rfl,(by rw[aE n2,au]),R.cl,R.nC,(by show 3<1000;decide),?_⟩
  refine⟨bB _,fun ap GN=>?_⟩
  have n4:q≠ap:=aK au GN
  have n5:ac≠ap:=aK (o:=.lst []) (by rw[aE n2.symm,au]) GN
  have n6:ar≠ap:=aK (o:=.lst []) (by rw[aE n1.symm,aE n3,aE n1.symm,au]) GN
  refine⟨_,rfl,q,C,dx,_,rfl,(by rw[aE n4,au]),R.cl,R.nV,(by show 4<1000;decide),?_⟩
  have f1:H ar=none:=by
   rw[aE n1.symm,aE n1.symm]at Fe
   exact Fe
  have f2:H ac=none:=by
   rw[aE n2.symm,aE n3.symm,aE n2.symm,aE n2.symm]at HA
   exact HA
  have f3:H ap=none:=by
   rw[aE n4.symm,aE n5.symm,aE n4.symm,aE n6.symm,aE n4.symm,aE n4.symm]at GN
   exact GN
  refine k _ ar ac ap ?_ f1 f2 f3 n3 n6 n5 ⟨⟨dx,au⟩,?_,trivial,?_,trivial,?_⟩
  ·intro b o hb DA
   rw[aE DA,aE (aK hb f3),aE DA,aE (aK hb f2),aE DA,aE (aK hb f1),aE DA,aE DA]
   exact hb
  ·rw[aE n1.symm,aE n6,aE n1.symm,aE n3,aE n1.symm,au]
   rfl
  ·rw[aE n2.symm,aE n5,aE n2.symm,au]
   rfl
  ·rw[aE n4.symm,au]
   rfl
theorem mB(L p:Nat)(ar ac ap:Addr):(MW L p ar ac ap).lookup ("length":Str)=some (.int (L:Nat)):=rfl
theorem wQ(L p:Nat)(ar ac ap:Addr):(MW L p ar ac ap).lookup ("prime":Str)=some (.int (p:Nat)):=rfl
theorem uS(L p:Nat)(ar ac ap:Addr):(MW L p ar ac ap).lookup ("rows":Str)=some (.ref ar):=rfl
theorem wR(L p:Nat)(ar ac ap:Addr):(MW L p ar ac ap).lookup ("cleared":Str)=some (.ref ac):=rfl
theorem yK(L p:Nat)(ar ac ap:Addr):(MW L p ar ac ap).lookup ("pivots":Str)=some (.ref ap):=rfl
def OF(K:W.Frag)(C:Addr):Sp:=fun vs H Q _=>∃(q dx ar ac ap:Addr)(L p:Nat)(v:V)(ns:List Int),vs=[.ref q,v]∧H q=some (.ins C dx (MW L p ar ac ap))∧IL K H v ns∧∀H',a0 H H'→Q (.bl ((ns.take L).any fun k=>k !=0)) H'
theorem Q2:bf ["self","rest"] ["self","rest"] (aB kK):=⟨rfl,rfl,rfl,by decide +kernel,rfl,by decide +kernel,by decide +kernel⟩
theorem Q3{f C:Addr}{fd:FuncData}(F:f6 K "is_new" "Chain.is_new" kK f fd)(R:DG K C)(T:Txt mg):cF P w K mg base fT 1 f fd ["self","rest"] (OF K C):=by
 refine F.ok Q2 (fun vs H Q E h=>?_) (fun eM A outer s H vs Q E hr h=>?_)
 ·obtain⟨q,dx,ar,ac,ap,L,p,v,ns,rfl,_⟩:=h
  rfl
 ·obtain⟨q,dx,ar,ac,ap,L,p,v,ns,rfl,hq,⟨a,rfl,ha⟩,k⟩:=h
  refine⟨_,aA (a9 (bZ (ET rfl) (by rfl) T.any yC (ah (mi pL (pv 1) zT (kj (bz (pv 0) rfl))) ax))),?_⟩
  refine⟨_,rfl,_,rfl,q,C,dx,_,_,rfl,hq,R.cl,R.nL,mB L p ar ac ap,_,rfl,a,_,rfl,ha,fun b hb=>?_⟩
  refine⟨b,ns.take L,rfl,cy.of ?_,k _ (bq hb)⟩
  rw[au,J1,j3]
def OG(K:W.Frag)(C:Addr):Sp:=fun vs H Q _=>∃(q dx ar ac ap:Addr)(L p:Nat)(v:V)(ns:List Int)(l4:List Addr),vs=[.ref q,v]∧H q=some (.ins C dx (MW L p ar ac ap))∧H ar=some (.lst (l4.map V.ref))∧IL K H v ns∧L+l4.length+1≤ns.length∧tD H Q ((ns.drop L).take (l4.length+1))
theorem Q4:bf ["self","rest"] ["self","rest"] (aB jr):=⟨rfl,rfl,rfl,by decide +kernel,rfl,by decide +kernel,by decide +kernel⟩
theorem Q5{f C:Addr}{fd:FuncData}(F:f6 K "relation" "Chain.relation" jr f fd)(R:DG K C)(T:Txt mg):cF P w K mg base fT 1 f fd ["self","rest"] (OG K C):=by
 refine F.ok Q4 (fun vs H Q E h=>?_) (fun eM A outer s H vs Q E hr h=>?_)
 ·obtain⟨q,dx,ar,ac,ap,L,p,v,ns,l4,rfl,_⟩:=h
  rfl
 ·obtain⟨q,dx,ar,ac,ap,L,p,v,ns,l4,rfl,hq,Fe,⟨a,rfl,ha⟩,hl,k⟩:=h
  refine⟨_,aA (a9 (mi pL (pv 1) (kj (bz (pv 0) rfl)) (kj (dF kF (dF kF (bz (pv 0) rfl) (bZ bN (by rfl) T.len bK (ah (bz (pv 0) rfl) ax))) bG)))),?_⟩
  refine⟨_,rfl,_,rfl,q,C,dx,_,_,rfl,hq,R.cl,R.nL,mB L p ar ac ap,_,rfl,_,rfl,q,C,dx,_,_,rfl,hq,R.cl,R.nL,mB L p ar ac ap,_,rfl,q,C,dx,_,_,rfl,hq,R.cl,R.nR,uS L p ar ac ap,ar,_,rfl,.inl (cy.of Fe),_,_,rfl,rfl,_,_,rfl,rfl,_,rfl,a,_,rfl,ha,fun b hb=>?_⟩
  refine k _ _ (bq hb) hb ?_
  rw[au]
  congr 2
  rw[ae]
  have e1:(L:Int)+(l4.length:Nat)+1=((L+l4.length+1:Nat):Int):=by push_cast;rfl
  rw[e1,Ai _ (by omega) (by rw[ae];exact hl),j3,so]
  congr 1
  omega
end
end GT
end
section
namespace GT
open PySem PySem.Spec PyProof.Rows L2
open Ch (ic gR pW mulR lZ qm md gy l0 jU gW nW ye marks PQ)
theorem cg{H H':Hp}{p:Addr}(e:a0 H H')(h:H' p=none):H p=none:=by
 cases e5:H p with
 |none=>rfl
 |some u=>rw[e _ _ e5]at h;cases h
theorem uT{n j:Nat}(h:j<n):Mw n (j:Int)=some j:=by
 unfold Mw
 rw[aO (by omega),aO (by omega)]
 rfl
theorem BU{α β:Type}{l:List α}{m:List β}{i:Nat}{a:α}{b:β}(h1:l[i]? =some a)(h2:m[i]? =some b):(l.zip m).take (i+1)=(l.zip m).take i++[(a,b)]:=by
 apply gh
 rw[List.getElem?_zip_eq_some]
 exact⟨h1,h2⟩
theorem kP{l:List Nat}{i:Nat}{x:V}(h:((bj l).map V.int)[i]? =some x): ∃k:Nat,l[i]? =some k∧x=.int (k:Nat):=by
 obtain⟨z,hz,rfl⟩:=er h
 rw[bj,ag]at hz
 cases e:l[i]? with
 |none=>rw[e]at hz;cases hz
 |some k=>
  rw[e]at hz
  exact⟨k,rfl,by rw[←a7 hz]⟩
section
variable{P:Program}{w:World}{K:W.Frag}{mg:Str→Option Value}{base:Heap}
def yL(p:Nat)(start:List Int)(ch:List (List Int×Nat)):List Int:=ch.foldl (fun r cp=>lZ p r (-(r.getD cp.2 0)) cp.1) start
theorem GO(p N:Nat)(start:List Int)(h0:start.length=N): ∀(ch:List (List Int×Nat)),(∀c∈ch,c.1.length=N)→(yL p start ch).length=N:=by
 intro ch
 induction ch generalizing start with
 |nil=>exact fun _=>h0
 |cons c ch ih=>
  intro h
  exact ih (lZ p start (-(start.getD c.2 0)) c.1) (by simp[lZ,h0,h c (by simp)]) fun d hd=>h d (by simp[hd])
def J8(K:W.Frag)(C:Addr):Sp:=fun vs H Q _=>∃(q ar ac ap:Addr)(L p:Nat)(l4 asc:List Addr)(rows cl:List (List Int))(pv:List Nat)(v:V)(ns:List Int),vs=[.ref q,v]∧BS C H q L p ar ac ap l4 asc rows cl pv∧HL H v ns∧ns.length=L∧
 cl.length=pv.length∧rows.length=pv.length∧pv.length≤L∧(∀c∈cl,c.length=2*L+1∧∀x∈c,0≤x∧x<1000000)∧(∀i∈pv,i<L)∧0<p∧L≤100∧tD H Q (nW p L (cl.zip pv) ns)
theorem nu:bf ["self","row","marks","rest","cleared","pivot","place"] ["self","row"] (aB hX):=⟨rfl,rfl,rfl,by decide +kernel,rfl,by decide +kernel,by decide +kernel⟩
theorem MX{f C:Addr}{fd:FuncData}(F:f6 K "rest_of" "Chain.rest_of" hX f fd)(R:DG K C)(T:Txt mg)(c1:iJ P w K mg base 1 "with_multiple" ["row","factor","other","prime"] (QY K)):cF P w K mg base fT 2 f fd ["self","row"] (J8 K C):=by
 refine F.ok nu (fun vs H Q E h=>?_) (fun eM A outer s H vs Q E hr h=>?_)
 ·obtain⟨q,ar,ac,ap,L,p,l4,asc,rows,cl,pv,v,ns,rfl,_⟩:=h
  rfl
 ·obtain⟨q,ar,ac,ap,L,p,l4,asc,rows,cl,pv,v,ns,rfl,⟨⟨dx,hq⟩,Fe,kf,HA,UL,GN⟩,⟨a,rfl,ha⟩,oj,lO,kZ,n9,LA,hpb,hp,hL,k⟩:=h
  refine⟨_,ak (gf rfl nu.nd (i:=2) rfl rfl (by rfl) (fQ rfl T.range (ah (dF kF (bz (L2.pv 0) rfl) bG) ax)) (own:=[("place",6)]) (cB (by show ij ["self","row","marks","rest","cleared","pivot","place"] (aB hX) _ _=true;decide +kernel))
    (fun s H C cl fp=>bE (i:=6) nu.nd rfl (Or.inl rfl)) (fun s H C cl fp=>cZ) (fun s H C cl fp=>bG))
   (ak (De bG (Dc (L2.pv 2) (bZ bN (by rfl) T.len bK (ah (bz (L2.pv 0) rfl) ax)) set_list))
   (ak (bI (i:=3) nu.nd rfl (Or.inl rfl) (dF Ju (L2.pv 1) (L2.pv 2)))
   (ak (gc bx rfl (wF rfl T.zip (ah (bz (L2.pv 0) rfl) (ah (bz (L2.pv 0) rfl) ax)))
     (g:=xS K 2 (iS (gM 4) (iS (gM 5) xR))) (lQ rfl (dz (bE (i:=4) nu.nd rfl (Or.inl rfl) (.inr rfl)) (dz (bE (i:=5) nu.nd rfl (Or.inl rfl) (.inr rfl)) jy)))
    (aA (bI (i:=3) nu.nd rfl (Or.inl rfl) (bQ c1 hr rfl (ah (L2.pv 3) (ah (TR Qo (cK bH (L2.pv 3) (L2.pv 5) (fun _ _=>rfl))) (ah (L2.pv 4) (ah (bz (L2.pv 0) rfl) ax))))))))
   (aA (a9 (L2.pv 3)))))),?_⟩
  have rZ:((L:Int)+1).toNat=L+1:=by omega
  have MY:=kf.len
  have YW:=UL.len
  refine⟨_,rfl,q,C,dx,_,_,rfl,hq,R.cl,R.nL,mB L p ar ac ap,_,_,rfl,rfl,_,rfl,by omega,by omega,fun D hD=>eg pk (by rw[rZ];omega) hD ((List.replicate (L+1) (0:Int)).map V.int) (by simp) ?_ ?_⟩
  ·rintro i x H' Z hi e rfl z
   rw[rZ]at hi
   refine⟨rfl,z _ _ a0.refl ?_⟩
   rw[ag,d5,aO hi]
   rfl
  ·intro H1 e1 Ff
   have hDa:a≠D:=aK ha hD
   refine⟨_,rfl,_,rfl,q,C,dx,_,_,rfl,e1 _ _ hq,R.cl,R.nR,uS L p ar ac ap,ar,_,rfl,.inl (cy.of (e1 _ _ Fe)),D,_,_,l4.length,rfl,rfl,Ff,?_,?_⟩
   ·rw[ae,ae,xr]
    exact uT (by omega)
   have e2:a0 H (upd H1 D (.lst (((List.replicate (L+1) (0:Int)).map V.int).set l4.length (V.int 1)))):=a0.fO hD e1
   have o6:upd H1 D (.lst (((List.replicate (L+1) (0:Int)).map V.int).set l4.length (V.int 1))) D=some (.lst ((marks L pv.length).map V.int)):=by
    rw[au,←List.map_set,MY,kZ]
    rfl
   generalize upd H1 D (.lst (((List.replicate (L+1) (0:Int)).map V.int).set l4.length (V.int 1)))=H2 at e2 o6
   refine⟨_,rfl,_,rfl,a,D,_,_,rfl,rfl,e2 _ _ ha,o6,?_,fun b hb=>?_⟩
   ·rw[ae,ae,oj,Ch.sQ]
    have:=bD
    omega
   have e3:a0 H (upd H2 b (.lst (ns.map V.int++(marks L pv.length).map V.int))):=e2.trans (bq hb)
   have BN:upd H2 b (.lst (ns.map V.int++(marks L pv.length).map V.int)) b=some (.lst ((yL p (ns++marks L pv.length) ((cl.zip pv).take 0)).map V.int)):=by
    rw[au,←bo]
    rfl
   have YX:H b=none:=cg e2 hb
   generalize upd H2 b (.lst (ns.map V.int++(marks L pv.length).map V.int))=H3 at e3 BN
   have Lu:(ns++marks L pv.length).length=2*L+1:=by rw[bC,oj,Ch.sQ];omega
   refine⟨_,rfl,q,C,dx,_,_,rfl,e3 _ _ hq,R.cl,R.nC,wR L p ar ac ap,_,rfl,q,C,dx,_,_,rfl,e3 _ _ hq,R.cl,R.nV,yK L p ar ac ap,ac,ap,_,_,rfl,cy.of (e3 _ _ HA),cy.of (e3 _ _ GN),
    jt (DE (K:=K) (a:=ac) (b:=ap) (xs:=asc.map V.ref) (ys:=(bj pv).map V.int) (by rw[ae,ae,bj,ae];omega))
     (fun i σ H'=>∃(b:Addr)(v4 v5:Option V),σ=[some (.ref q),some (.ref a),some (.ref D),some (.ref b),v4,v5,none]∧a0 H H'∧H b=none∧H' b=some (.lst ((yL p (ns++marks L pv.length) ((cl.zip pv).take i)).map V.int)))
     ⟨b,none,none,rfl,e3,YX,BN⟩ (fun i σ H'⟨_,_,_,_,e,_⟩=>⟨cy.of (e _ _ HA),cy.of (e _ _ GN)⟩) ?_ ?_⟩
   ·rintro i x σ H4 H5 hi ⟨b,v4,v5,rfl,e4,hb,Sm⟩ e5 ⟨Tt,x1,x2,rfl,h1,h2,hT⟩
    obtain⟨c,hc,rfl⟩:=er h1
    obtain⟨pi,PX,rfl⟩:=kP h2
    obtain⟨cr,MZ,i9⟩:=UL.at_ hc
    obtain⟨g1,g2⟩:=LA cr (aL MZ)
    have g3:=hpb pi (aL PX)
    have uz:=e4.trans e5
    have hlen:(yL p (ns++marks L pv.length) ((cl.zip pv).take i)).length=2*L+1:=GO p _ _ Lu _ fun d hd=>(LA d.1 (iy (xX hd)).1).1
    refine⟨Tt,_,rfl,.inl (.inl hT),rfl,_,_,rfl,_,_,rfl,rfl,_,rfl,_,rfl,_,rfl,b,_,_,_,rfl,rfl,cy.of (e5 _ _ Sm),at_of (j:=pi) rfl (sx (by rw[hlen];omega)),_,rfl,_,rfl,_,rfl,q,C,dx,_,_,rfl,uz _ _ hq,R.cl,R.nP,wQ L p ar ac ap,
     p,_,_,_,cr,_,rfl,⟨b,rfl,cy.of (e5 _ _ Sm)⟩,⟨c,rfl,cy.of (uz _ _ i9)⟩,hp,g2,by rw[hlen];omega,by rw[hlen,g1],fun b' H6 e6 ke hb6=>⟨b',some (.ref c),some (.int (pi:Nat)),rfl,uz.trans e6,cg uz ke,?_⟩⟩
    rw[hb6,BU MZ PX]
    unfold yL
    rw[iL]
    rfl
   ·rintro σ H4 ⟨b,v4,v5,rfl,e4,hb,Sm⟩
    refine⟨_,rfl,k _ _ e4 hb ?_⟩
    rw[Sm]
    congr 3
    rw[fh (by rw[ow,ae];omega)]
    unfold yL nW
    rw[ow,lO,Nat.min_self]
def J9(K:W.Frag)(C:Addr):Sp:=fun vs H Q _=>∃(q ar ac ap ra:Addr)(L p:Nat)(_:NeZero p)(l4 asc:List Addr)(rows cl:List (List Int))(pv:List Nat)(v:V)(ns:List Int),vs=[.ref q,.ref ra,v]∧BS C H q L p ar ac ap l4 asc rows cl pv∧ar≠ac∧ar≠ap∧ac≠ap∧IL K H v ns∧
 gR p∧p≤100000∧ns.length=2*L+1∧pW p ns∧(∃i,i<L∧ns.getD i 0≠0)∧L≤100∧l4.length≤100∧asc.length≤100∧pv.length≤100∧
 ∀(H':Hp)(c:Addr),H c=none→(∀b o,H b=some o→b≠ar→b≠ac→b≠ap→H' b=some o)→H' ar=some (.lst ((l4++[ra]).map V.ref))→H' ac=some (.lst ((asc++[c]).map V.ref))→H' c=some (.lst ((mulR p ns (gW p (ns.getD (ye L ns) 0))).map V.int))→
  H' ap=some (.lst ((bj (pv++[ye L ns])).map V.int))→Q .fC H'
theorem uU:bf ["self","row","rest","pivot","place"] ["self","row","rest"] (aB km):=⟨rfl,rfl,rfl,by decide +kernel,rfl,by decide +kernel,by decide +kernel⟩
theorem M0{f C:Addr}{fd:FuncData}(F:f6 K "keep" "Chain.keep" km f fd)(R:DG K C)(T:Txt mg)(c1:iJ P w K mg base 1 "multiple" ["row","factor","prime"] (E8 K))(c2:iJ P w K mg base 1 "inverse_number" ["number","prime"] Aj):cF P w K mg base fT 2 f fd ["self","row","rest"] (J9 K C):=by
 refine F.ok uU (fun vs H Q E h=>?_) (fun eM A outer s H vs Q E hr h=>?_)
 ·obtain⟨q,ar,ac,ap,ra,L,p,_,l4,asc,rows,cl,pv,v,ns,rfl,_⟩:=h
  rfl
 ·obtain⟨q,ar,ac,ap,ra,L,p,hz,l4,asc,rows,cl,pv,v,ns,rfl,⟨⟨dx,hq⟩,Fe,kf,HA,UL,GN⟩,n1,n2,n3,⟨a,rfl,ha⟩,hp,Cm,oj,F6,hex,hL,l1,l2,l3,k⟩:=h
  obtain⟨f1,f2⟩:=Ch.Be hex
  refine⟨_,ak (bI (i:=3) uU.nd rfl (Or.inl rfl) (cK bH (je rfl uU.nd (fQ rfl T.range (ah (bz (L2.pv 0) rfl) ax)) (own:=[("place",4)]) (cB (by show ij ["self","row","rest","pivot","place"] (aB km) _ _=true;decide +kernel))
    (fun s H C cl fp=>bE (i:=4) uU.nd rfl (Or.inl rfl)) (tt:=EC (Ey rNe (Ey (mj K) _ _) _)) (fun s H C cl fp=>EJ (cJ TX (cK (show EF _ (mj K)from bH) (L2.pv 2) (L2.pv 4) (fun _ _=>rfl)) bG (cW _))) (fun s H C cl fp=>L2.pv 4)) bG (fun _ _=>rfl)))
   (ak (gz (lA bF dN dO jn (bz (L2.pv 0) rfl) (ah (bQ c1 hr rfl (ah (L2.pv 2) (ah (bQ c2 hr rfl (ah (cK bH (L2.pv 2) (L2.pv 3) (fun _ _=>rfl)) (ah (bz (L2.pv 0) rfl) ax))) (ah (bz (L2.pv 0) rfl) ax)))) ax)))
   (ak (gz (lA bF dN dO jn (bz (L2.pv 0) rfl) (ah (L2.pv 3) ax)))
   (aA (gz (lA bF dN dO jn (bz (L2.pv 0) rfl) (ah (L2.pv 1) ax)))))),?_⟩
  have rZ:((L:Nat):Int).toNat=L:=aY L
  refine⟨_,rfl,q,C,dx,_,_,rfl,hq,R.cl,R.nL,mB L p ar ac ap,_,rfl,by omega,by omega,fun D hD=>E6 pk (by rw[rZ];omega) hD (fun i=>ns.getD i 0 !=0) (fun i=>.int ((i:Nat):Int)) ?_ ?_⟩
  ·rintro i x H' Z N hi e rfl xF IV
   rw[rZ]at hi
   have e0:(0:Int)+(i:Nat)=((i:Nat):Int):=fj _
   refine⟨rfl,_,rfl,_,rfl,a,_,_,_,rfl,rfl,e.seq ha,at_of (j:=i) e0 (sx (by omega)),rfl,_,rfl,?_⟩
   refine gA (fun hb=>?_) (fun hb=>?_)
   ·refine⟨_,rfl,?_⟩
    rw[fj]
    refine xF ?_ _ a0.refl
    cases h2:(ns.getD i 0 !=0)with
    |true=>rfl
    |false=>
     have h3:ns.getD i 0=0:=by simpa using h2
     rw[h3]at hb
     cases hb
   ·refine IV ?_ _ a0.refl
    cases h2:(ns.getD i 0 !=0)with
    |false=>rfl
    |true=>
     have h3:ns.getD i 0≠0:=by simpa using h2
     exfalso
     apply hb
     show(!decide (V.int (ns.getD i 0)=V.int 0))=true
     rw[decide_eq_false (fun e2=>h3 (by injection e2))]
     rfl
  ·intro H1 e1 Ff
   have UM:(((List.range (((L:Nat):Int).toNat)).filter fun i=>ns.getD i 0 !=0).map fun(i:Nat)=>V.int ((i:Nat):Int))[0]? =some (V.int ((ye L ns:Nat):Int)):=by
    rw[rZ,ag]
    unfold ye
    cases e2:(List.range L).filter fun i=>ns.getD i 0 !=0 with
    |nil=>
     exfalso
     obtain⟨i,hi,hn⟩:=hex
     have:i∈(List.range L).filter fun i=>ns.getD i 0 !=0:=by
      rw[bg,aD]
      exact⟨hi,by simpa using hn⟩
     rw[e2]at this
     cases this
    |cons x l=>rfl
   refine⟨D,_,_,_,rfl,rfl,cy.of Ff,at_of (j:=0) rfl UM,?_⟩
   have DH: ∀x∈ns,0≤x∧x<1000000:=fun x hx=>by have:=F6 x hx;omega
   refine⟨_,rfl,q,C,dx,_,_,rfl,e1 _ _ hq,R.cl,R.nC,wR L p ar ac ap,.inl ⟨rfl,_,cy.of (e1 _ _ HA)⟩,_,rfl,_,rfl,_,rfl,a,_,_,_,rfl,rfl,e1.seq ha,at_of (j:=ye L ns) rfl (sx (by omega)),_,rfl,q,C,dx,_,_,rfl,e1 _ _ hq,R.cl,R.nP,wQ L p ar ac ap,
    p,hz,_,rfl,hp,Cm,_,rfl,q,C,dx,_,_,rfl,e1 _ _ hq,R.cl,R.nP,wQ L p ar ac ap,p,_,ns,_,rfl,⟨a,rfl,e1.seq ha⟩,by have:=hp.1;omega,DH,by omega,fun c H2 e2 hc So=>?_⟩
   have qB:=e1.trans e2
   have Q6:H c=none:=cg e1 hc
   refine⟨ac,_,_,rfl,rfl,qB _ _ HA,by rw[ae];have:=bD;omega,?_⟩
   have nac:q≠ac:=ub hq HA (by intro z;cases z)
   have nap:q≠ap:=ub hq GN (by intro z;cases z)
   have nar:q≠ar:=ub hq Fe (by intro z;cases z)
   refine⟨_,rfl,q,C,dx,_,_,rfl,(by rw[aE nac];exact qB _ _ hq),R.cl,R.nV,yK L p ar ac ap,.inl ⟨rfl,_,cy.of (by rw[aE n3.symm];exact qB _ _ GN)⟩,_,rfl,ap,_,_,rfl,rfl,(by rw[aE n3.symm];exact qB _ _ GN),by rw[ae,bj,ae];have:=bD;omega,?_⟩
   refine⟨_,rfl,q,C,dx,_,_,rfl,(by rw[aE nap,aE nac];exact qB _ _ hq),R.cl,R.nR,uS L p ar ac ap,.inl ⟨rfl,_,cy.of (by rw[aE n2,aE n1];exact qB _ _ Fe)⟩,_,rfl,ar,_,_,rfl,rfl,(by rw[aE n2,aE n1];exact qB _ _ Fe),by rw[ae];have:=bD;omega,?_⟩
   have Q7:c≠ar:=fun e=>by rw[e,Fe]at Q6;cases Q6
   have Q8:c≠ac:=fun e=>by rw[e,HA]at Q6;cases Q6
   have Q9:c≠ap:=fun e=>by rw[e,GN]at Q6;cases Q6
   refine k _ c Q6 (fun b o hb b1 b2 b3=>?_) ?_ ?_ ?_ ?_
   ·rw[aE b1,aE b3,aE b2]
    exact qB _ _ hb
   ·rw[au,bo]
    rfl
   ·rw[aE n1.symm,aE n3,au,bo]
    rfl
   ·rw[aE Q7,aE Q9,aE Q8]
    exact So
   ·rw[aE n2.symm,au,bj,bj,bo,bo]
    rfl
end
end GT
end
section
namespace GT
open PySem PySem.Spec PyProof.Rows L2
open Ch (ic gR pW mulR lZ qm md gy l0 jU gW nW ye marks PQ Iu zw kY ly j9 chain sS L3)
theorem BV{ns:List Int}{L:Nat}:((ns.take L).any fun k=>k !=0)=true↔ ∃i,i<L∧ns.getD i 0≠0:=by
 rw[cS]
 constructor
 ·rintro⟨x,hx,df⟩
  obtain⟨i,hi⟩:=d6 hx
  obtain⟨h1,h2⟩:=aJ.mp hi
  rw[cT]at h1
  rw[sk (by omega)]at hi
  refine⟨i,by omega,?_⟩
  rw[af,hi]
  simpa using df
 ·rintro⟨i,hi,df⟩
  rw[af]at df
  cases e:ns[i]? with
  |none=>rw[e]at df;exact absurd rfl df
  |some x=>
   rw[e]at df
   refine⟨x,?_,by simpa using df⟩
   rw[←sk hi]at e
   exact aL e
section
variable{P:Program}{w:World}{K:W.Frag}{mg:Str→Option Value}{base:Heap}
theorem yM{p L:Nat}(start:List Int)(hs:start.length=L): ∀(ch:List (Int×List Int)),(∀c∈ch,c.2.length=L)→(ch.foldl (fun part fi=>lZ p part fi.1 fi.2) start).length=L:=by
 intro ch
 induction ch generalizing start with
 |nil=>exact fun _=>hs
 |cons c ch ih=>
  intro h
  exact ih (lZ p start c.1 c.2) (by simp[lZ,hs,h c (by simp)]) fun d hd=>h d (by simp[hd])
theorem Ka{p:Nat} [NeZero p](start:List Int): ∀(ch:List (Int×List Int)),ch≠[]→pW p (ch.foldl (fun part fi=>lZ p part fi.1 fi.2) start):=by
 intro ch
 induction ch generalizing start with
 |nil=>exact fun h=>absurd rfl h
 |cons c ch ih=>
  intro _
  cases ch with
  |nil=>exact Ch.zx _ _ _
  |cons d ch=>exact ih (lZ p start c.1 c.2) (by simp)
def DI(K:W.Frag):Sp:=fun vs H Q _=>∃(p:Nat)(_:NeZero p)(L:Nat)(v u:V)(yi:List (List Int))(iQ:List Int)(z:Int),vs=[v,u,.int z,.int (p:Nat)]∧TL K H v yi∧IL K H u iQ∧gR p∧p≤100000∧L≤100∧yi≠[]∧yi.length≤100∧iQ.length=yi.length+1∧
 (∀r∈yi,r.length=L∧pW p r)∧tD H Q (Iu p yi iQ z L)
theorem nv:bf ["images","polynomial","zero","prime","others","part","factor","image","number"] ["images","polynomial","zero","prime"] (aB pO):=⟨rfl,rfl,rfl,by decide +kernel,rfl,by decide +kernel,by decide +kernel⟩
theorem Na{f:Addr}{fd:FuncData}(F:f6 K "part_at" "part_at" pO f fd)(T:Txt mg)(c1:iJ P w K mg base 1 "without_zero" ["polynomial","zero","prime"] (UJ K))(c2:iJ P w K mg base 1 "with_multiple" ["row","factor","other","prime"] (QY K))
  (c3:iJ P w K mg base 1 "multiple" ["row","factor","prime"] (E8 K))(c4:iJ P w K mg base 1 "inverse_number" ["number","prime"] Aj)(c5:iJ P w K mg base 1 "value_at" ["polynomial","place","prime"] (Fb K)):cF P w K mg base fT 2 f fd ["images","polynomial","zero","prime"] (DI K):=by
 refine F.ok nv (fun vs H Q E h=>?_) (fun eM A outer s H vs Q E hr h=>?_)
 ·obtain⟨p,_,L,v,u,yi,iQ,z,rfl,_⟩:=h
  rfl
 ·obtain⟨p,hz,L,v,u,yi,iQ,z,rfl,⟨a,as,rfl,ha,kf⟩,⟨b,rfl,hb⟩,hp,Cm,hL,df,xN,n9,Wn,k⟩:=h
  refine⟨_,ak (bI (i:=4) nv.nd rfl (Or.inl rfl) (bQ c1 hr rfl (ah (L2.pv 1) (ah (L2.pv 2) (ah (L2.pv 3) ax)))))
   (ak (gf rfl nv.nd (i:=5) rfl rfl (by rfl) (d8 (cK bH (L2.pv 0) bG (fun _ _=>rfl))) (own:=[("number",8)]) (cB (by show ij ["images","polynomial","zero","prime","others","part","factor","image","number"] (aB pO) _ _=true;decide +kernel))
    (fun s H C cl fp=>bE (i:=8) nv.nd rfl (Or.inl rfl)) (fun s H C cl fp=>cZ) (fun s H C cl fp=>bG))
   (ak (gc bx rfl (wF rfl T.zip (ah (L2.pv 4) (ah (L2.pv 0) ax)))
     (g:=xS K 2 (iS (gM 6) (iS (gM 7) xR))) (lQ rfl (dz (bE (i:=6) nv.nd rfl (Or.inl rfl) (.inr rfl)) (dz (bE (i:=7) nv.nd rfl (Or.inl rfl) (.inr rfl)) jy)))
    (aA (bI (i:=5) nv.nd rfl (Or.inl rfl) (bQ c2 hr rfl (ah (L2.pv 5) (ah (L2.pv 6) (ah (L2.pv 7) (ah (L2.pv 3) ax))))))))
   (aA (a9 (bQ c3 hr rfl (ah (L2.pv 5) (ah (bQ c4 hr rfl (ah (bQ c5 hr rfl (ah (L2.pv 4) (ah (L2.pv 2) (ah (L2.pv 3) ax)))) (ah (L2.pv 3) ax))) (ah (L2.pv 3) ax)))))))),?_⟩
  have uH:=hp.1
  have hlen:=kf.len
  have rB:0<yi.length:=List.length_pos_iff.2 df
  refine⟨_,rfl,_,rfl,_,rfl,p,_,iQ,z,rfl,⟨b,rfl,hb⟩,by omega,Cm,by omega,(by intro e;rw[e]at n9;simp at n9),fun o H1 e1 ho Oe=>?_⟩
  have hql:(l0 p z iQ.tail).length=yi.length:=by rw[Ch.uK,List.length_tail,n9];omega
  obtain⟨b0,Iq⟩: ∃b0,as[0]? =some b0:=⟨_,aj (by omega)⟩
  obtain⟨r0,QO,EX⟩:=kf.at_ Iq
  have UN:=(Wn r0 (aL QO)).1
  refine⟨_,rfl,a,_,_,_,rfl,rfl,e1.seq ha,at_of (j:=0) (v:=V.ref b0) rfl (by rw[ag,Iq];rfl),b0,rfl,⟨_,e1.seq EX⟩,fun D hD=>eg (iG (e1.seq EX)) (by rw[ae];omega) hD ((List.replicate L (0:Int)).map V.int) (by simp[UN]) ?_ ?_⟩
  ·intro i x H' Z hi e it zz
   rw[ae,UN]at hi
   refine⟨rfl,zz _ _ a0.refl ?_⟩
   rw[ag,d5,aO hi]
   rfl
  ·intro H2 e2 o6
   have qB:=e1.trans e2
   refine⟨_,rfl,_,rfl,o,a,_,_,rfl,cy.of (e2 _ _ Oe),qB.seq ha,jt (DE (K:=K) (a:=o) (b:=a) (xs:=(l0 p z iQ.tail).map V.int) (ys:=as.map V.ref) (by rw[ae,ae,hql,hlen]))
    (fun i σ H'=>∃(d:Addr)(v6 v7:Option V),σ=[some (.ref a),some (.ref b),some (.int z),some (.int (p:Nat)),some (.ref o),some (.ref d),v6,v7,none]∧a0 H H'∧H' o=some (.lst ((l0 p z iQ.tail).map V.int))∧H d=none∧H' d=some (.lst ((((l0 p z iQ.tail).zip yi).take i|>.foldl (fun part fi=>lZ p part fi.1 fi.2) (List.replicate L 0)).map V.int)))
    ⟨D,none,none,rfl,qB,e2 _ _ Oe,cg e1 hD,o6⟩ (fun i σ H'⟨_,_,_,_,e,e',_⟩=>⟨cy.of e',e.seq ha⟩) ?_ ?_⟩
   ·rintro i x σ H4 H5 hi ⟨d,v6,v7,rfl,e4,YY,hd,Hx⟩ e5 ⟨Tt,x1,x2,rfl,h1,h2,hT⟩
    obtain⟨c,hc,rfl⟩:=er h1
    obtain⟨y,hy,rfl⟩:=er h2
    obtain⟨r,iF,i9⟩:=kf.at_ hy
    obtain⟨g1,g2⟩:=Wn r (aL iF)
    have uz:=e4.trans e5
    have OH:=yM (p:=p) (L:=L) (List.replicate L 0) (by simp) (((l0 p z iQ.tail).zip yi).take i) fun d hd=>(Wn d.2 (iy (xX hd)).2).1
    refine⟨Tt,_,rfl,.inl (.inl hT),rfl,_,_,rfl,_,_,rfl,rfl,_,rfl,_,rfl,_,rfl,_,rfl,p,_,_,_,r,c,rfl,⟨d,rfl,cy.of (e5 _ _ Hx)⟩,⟨y,rfl,uz.seq i9⟩,by omega,fun x hx=>by have:=g2 x hx;omega,by rw[OH];omega,by rw[OH,g1],fun d' H6 e6 Ll hd6=>⟨d',some (.int c),some (.ref y),rfl,uz.trans e6,(e5.trans e6) _ _ YY,cg uz Ll,?_⟩⟩
    rw[hd6,BU hc iF,iL]
    rfl
   ·rintro σ H4 ⟨d,v6,v7,rfl,e4,YY,hd,Hx⟩
    have BK:((l0 p z iQ.tail).zip yi).take ((l0 p z iQ.tail).map V.int).length=(l0 p z iQ.tail).zip yi:=fh (by rw[ow,ae];omega)
    rw[BK]at Hx
    have Eb:pW p (((l0 p z iQ.tail).zip yi).foldl (fun part fi=>lZ p part fi.1 fi.2) (List.replicate L 0)):=Ka _ _ (by
     intro e
     have:=ba List.length e
     rw[ow,hql,Nat.min_self,oq]at this
     omega)
    have Sg:=yM (p:=p) (L:=L) (List.replicate L 0) (by simp) ((l0 p z iQ.tail).zip yi) fun d hd=>(Wn d.2 (iy hd).2).1
    refine⟨_,rfl,_,rfl,_,rfl,_,rfl,p,_,_,z,rfl,⟨o,rfl,cy.of YY⟩,by omega,Cm,fun H5 e5=>?_⟩
    refine⟨_,rfl,p,hz,_,rfl,hp,Cm,?_⟩
    refine⟨_,rfl,p,_,_,_,rfl,⟨d,rfl,cy.of (e5 _ _ Hx)⟩,by omega,fun x hx=>by have:=Eb x hx;omega,by rw[Sg];omega,fun y H6 e6 hy hy6=>?_⟩
    exact k _ _ ((e4.trans e5).trans e6) (cg (e4.trans e5) hy) hy6
def Fg(K:W.Frag):Sp:=fun vs H Q _=>∃(p:Nat)(_:NeZero p)(L:Nat)(v u:V)(m:List (List Int))(row:List Int)(la:List Nat)(vv:Nat→List Int),vs=[v,u,.int (p:Nat)]∧TL K H v m∧HL H u row∧gR p∧p≤100000∧L≤100∧(∀r∈m,∀x∈r,0≤x∧x<1000000)∧
 L3 p L m row la vv∧JY H Q (la.map vv)
theorem zip_map{α β γ:Type}(l:List α)(f:α→β)(g:α→γ):(l.map f).zip (l.map g)=l.map fun a=>(f a,g a):=by
 induction l with
 |nil=>rfl
 |cons a l ih=>rw[a6,a6,p7,ih,a6]
theorem OI{p L:Nat} [NeZero p]{m:List (List Int)}{row:List Int}(hl:row.length=L)(q:Nat):ly p m row q=(mulR p (j9 p m row q) (gW p ((j9 p m row q).getD (ye L (j9 p m row q)) 0)),ye L (j9 p m row q)):=by
 subst hl
 rfl
theorem OJ{p L:Nat} [NeZero p]{m:List (List Int)}{row:List Int}(hl:row.length=L)(q:Nat):nW p L (((List.range q).map fun j=>(ly p m row j).1).zip ((List.range q).map fun j=>(ly p m row j).2)) (kY p m row q)=j9 p m row q:=by
 subst hl
 rw[zip_map,j9,Ch.rD]
theorem i3{H:Hp}{a b:Addr}{o:HO}(h:upd H a o b=none):b≠a∧H b=none:=by
 by_cases e:b=a
 ·subst e
  rw[au]at h
  cases h
 ·rw[aE e]at h
  exact⟨e,h⟩
structure SpI(C:Addr)(H:Hp)(p:Nat) [NeZero p](L:Nat)(m:List (List Int))(row:List Int)(q:Nat)(x ib d ar ac ap:Addr)(l4 asc:List Addr)(H':Hp):Prop where
 same:a0 H H'
 fx:H x=none
 fr:H ar=none
 fc:H ac=none
 fp:H ap=none
 n1:ar≠ac
 n2:ar≠ap
 n3:ac≠ap
 nr: ∀y∈l4,y≠ar∧y≠ac∧y≠ap
 nc: ∀y∈asc,y≠ar∧y≠ac∧y≠ap
 ni:ib≠ar∧ib≠ac∧ib≠ap
 ch:BS C H' x L p ar ac ap l4 asc ((List.range q).map (kY p m row)) ((List.range q).map fun j=>(ly p m row j).1) ((List.range q).map fun j=>(ly p m row j).2)
 im:H' ib=some (.lst ((kY p m row q).map V.int))
 re:H' d=some (.lst ((j9 p m row q).map V.int))
theorem BS.same{C:Addr}{H H':Hp}{q:Addr}{L p:Nat}{ar ac ap:Addr}{l4 asc:List Addr}{rows cl:List (List Int)}{pv:List Nat}(e:a0 H H')(h:BS C H q L p ar ac ap l4 asc rows cl pv):BS C H' q L p ar ac ap l4 asc rows cl pv:=by
 obtain⟨⟨dx,h1⟩,h2,h3,h4,h5,h6⟩:=h
 exact⟨⟨dx,e _ _ h1⟩,e _ _ h2,h3.same e,e _ _ h4,h5.same e,e _ _ h6⟩
theorem cb.keep{H H':Hp}: ∀{as:List Addr}{rs:List (List Int)},(∀b∈as,∀o,H b=some o→H' b=some o)→cb H as rs→cb H' as rs
 |[],[],_,h=>h
 |a::as,r::rs,hd,h=>⟨hd a (by simp) _ h.1,cb.keep (fun b hb=>hd b (by simp[hb])) h.2⟩
 |[],_::_,_,h=>h.elim
 |_::_,[],_,h=>h.elim
theorem i4:bf ["matrix","row","prime","chain","image","rest","relation","zero"] ["matrix","row","prime"] (aB lD):=⟨rfl,rfl,rfl,by decide +kernel,rfl,by decide +kernel,by decide +kernel⟩
theorem Kb{f C:Addr}{fd:FuncData}(F:f6 K "split_row" "split_row" lD f fd)(T:Txt mg)(R:DG K C)(k1:BR P w K mg base 1 "Chain" C ["self","length","prime"] (Fd C))(m1:jX P w K mg base 2 C "rest_of" ["self","row"] (J8 K C))(m2:jX P w K mg base 1 C "is_new" ["self","rest"] (OF K C))
  (m3:jX P w K mg base 2 C "keep" ["self","row","rest"] (J9 K C))(m4:jX P w K mg base 1 C "relation" ["self","rest"] (OG K C))(c1:iJ P w K mg base 2 "image_of" ["matrix","row","prime"] (OE K))(c2:iJ P w K mg base 2 "part_at" ["images","polynomial","zero","prime"] (DI K))
  (c3:iJ P w K mg base 2 "zeros_of" ["polynomial","prime"] (Fc K)):cF P w K mg base fT 3 f fd ["matrix","row","prime"] (Fg K):=by
 refine F.ok i4 (fun vs H Q E h=>?_) (fun eM A outer s H vs Q E hr h=>?_)
 ·obtain⟨p,_,L,v,u,m,row,la,vv,rfl,_⟩:=h
  rfl
 ·obtain⟨p,hz,L,v,u,m,row,la,vv,rfl,⟨a,as,rfl,ha,kf⟩,⟨b,rfl,hb⟩,hp,Cm,hL,Ra,EG,k⟩:=h
  have tF:dY 1 _:=hr.mono (by omega)
  refine⟨_,ak (bI (i:=3) i4.nd rfl (Or.inr rfl) (uR k1 hr rfl (ah (bZ bN (by rfl) T.len bK (ah (L2.pv 1) ax)) (ah (L2.pv 2) ax))))
   (ak (bI (i:=4) i4.nd rfl (Or.inl rfl) (L2.pv 1))
   (ak (bI (i:=5) i4.nd rfl (Or.inl rfl) (eW m1 R.cl hr (L2.pv 3) (ah (L2.pv 4) ax)))
   (ak (iT bx (fH (eW m2 R.cl tF (L2.pv 3) (ah (L2.pv 5) ax)))
    (ak (gz (eW m3 R.cl hr (L2.pv 3) (ah (L2.pv 4) (ah (L2.pv 5) ax))))
    (ak (bI (i:=4) i4.nd rfl (Or.inl rfl) (bQ c1 hr rfl (ah (L2.pv 0) (ah (L2.pv 4) (ah (L2.pv 2) ax)))))
    (aA (bI (i:=5) i4.nd rfl (Or.inl rfl) (eW m1 R.cl hr (L2.pv 3) (ah (L2.pv 4) ax)))))))
   (ak (bI (i:=6) i4.nd rfl (Or.inr rfl) (eW m4 R.cl tF (L2.pv 3) (ah (L2.pv 5) ax)))
   (aA (a9 (je rfl i4.nd (d8 (bQ c3 hr rfl (ah (L2.pv 6) (ah (L2.pv 2) ax)))) (own:=[("zero",7)]) (cB (by show ij ["matrix","row","prime","chain","image","rest","relation","zero"] (aB lD) _ _=true;decide +kernel))
    (fun s H C cl fp=>bE (i:=7) i4.nd rfl (Or.inl rfl)) (fun s H C cl fp=>cZ)
    (te:=rO (DI K) [] E0 (uf (Mq K _ "rows") (uf _ (uf _ (uf _ zQ))))) (fun s H C cl fp=>bQ c2 hr rfl (ah (bz (L2.pv 3) rfl) (ah (L2.pv 6) (ah (L2.pv 7) (ah (L2.pv 2) ax)))))))))))),?_⟩
  have uH:=hp.1
  have hlen:=kf.len
  have kZ:=EG.CZ
  have hle:=EG.le
  refine⟨_,rfl,b,_,rfl,.inl (cy.of hb),_,rfl,?_⟩
  rw[ae,kZ]
  intro x dx hx UO df
  refine⟨x,dx,L,p,rfl,au,fun H1 ar ac ap bt f1 f2 f3 n1 n2 n3 ch=>⟨rfl,?_⟩⟩
  have g1:=(i3 (i3 f1).2).2
  have g2:=(i3 (i3 f2).2).2
  have g3:=(i3 (i3 f3).2).2
  have e1:a0 H H1:=fun y o hy=>bt y o (by rw[aE (aK hy hx),aE (aK hy UO)];exact hy) (aK hy hx)
  obtain⟨dx1,UP⟩:=ch.ins
  refine⟨_,rfl,_,rfl,x,dx1,_,rfl,UP,rfl,_,rfl,x,ar,ac,ap,L,p,[],[],[],[],[],_,row,rfl,ch,⟨b,rfl,e1 _ _ hb⟩,kZ,rfl,rfl,bB _,by simp,by simp,by omega,hL,fun d H2 e2 hd hd2=>?_⟩
  refine⟨fun mm σ H'=>∃(q:Nat)(x ib d ar ac ap:Addr)(l4 asc:List Addr),mm=la.length-q∧q≤la.length∧σ=[some (.ref a),some (.ref b),some (.int (p:Nat)),some (.ref x),some (.ref ib),some (.ref d),none,none]∧SpI C H p L m row q x ib d ar ac ap l4 asc H',
   ⟨_,0,x,b,d,ar,ac,ap,[],[],rfl,bB _,rfl,?_⟩,?_⟩
  ·refine⟨e1.trans e2,hx,g1,g2,g3,n1,n2,n3,by simp,by simp,⟨aK hb g1,aK hb g2,aK hb g3⟩,ch.same e2,(e1.trans e2) _ _ hb,?_⟩
   rw[hd2]
   congr 3
   have:=OJ (p:=p) (m:=m) kZ 0
   rw[←this]
   rfl
  rintro mm σ H3 ⟨q,x,ib,d,ar,ac,ap,l4,asc,rfl,hq,rfl,I⟩
  obtain⟨LB,Kc⟩:=I.ch.ins
  obtain⟨UQ,lO⟩:=Ch.kD hp EG q hq
  have R0:q≤L:=by omega
  obtain⟨r1,r2,_⟩:=Ch.iC hp EG R0 UQ lO
  have MY:l4.length=q:=by rw[I.ch.rws.len];simp
  have YW:asc.length=q:=by rw[I.ch.cls.len];simp
  refine⟨_,rfl,x,LB,_,rfl,Kc,rfl,_,rfl,x,LB,ar,ac,ap,L,p,_,j9 p m row q,rfl,Kc,⟨d,rfl,cy.of I.re⟩,fun H4 e4=>⟨_,rfl,?_⟩⟩
  have wU:=e4 _ _ Kc
  have UR:=e4 _ _ I.re
  have YZ:=e4 _ _ I.im
  have e34:=I.same.trans e4
  refine gA (fun DJ=>?_) (fun hold=>?_)
  ·have hex:=BV.1 DJ
   have eI:q<la.length:=by
    apply ai
    intro Ed
    have:q=la.length:=by omega
    subst this
    obtain⟨i,hi,hn⟩:=hex
    exact hn (Ch.Bg hp EG i hi)
   refine⟨fun σ' H'=>∃(x ib d ar ac ap:Addr)(l4 asc:List Addr),σ'=[some (.ref a),some (.ref b),some (.int (p:Nat)),some (.ref x),some (.ref ib),some (.ref d),none,none]∧SpI C H p L m row (q+1) x ib d ar ac ap l4 asc H',?_,?_⟩
   ·rintro σ' H' ⟨x',Wo,d',ar',ac',ap',Y0,Y1,rfl,I'⟩
    exact⟨la.length-(q+1),by omega,q+1,x',Wo,d',ar',ac',ap',Y0,Y1,rfl,eI,rfl,I'⟩
   ·refine⟨_,rfl,x,LB,_,rfl,wU,rfl,_,rfl,_,rfl,x,ar,ac,ap,ib,L,p,hz,l4,asc,_,_,_,_,j9 p m row q,rfl,I.ch.same e4,I.n1,I.n2,I.n3,⟨d,rfl,cy.of UR⟩,hp,Cm,r1,r2,hex,hL,by omega,by omega,by simp;omega,fun H5 c hc BW k1 k2 k3 k4=>?_⟩
    have e5:a0 H H5:=fun y o hy=>BW y o (e34 _ _ hy) (aK hy I.fr) (aK hy I.fc) (aK hy I.fp)
    have US:H5 ib=some (.lst ((kY p m row q).map V.int)):=BW _ _ YZ I.ni.1 I.ni.2.1 I.ni.2.2
    have xN:=Ch.qo EG q
    have Y2:x≠ar:=ub wU ((I.ch.same e4).hr) (by intro z;cases z)
    have hxc:x≠ac:=ub wU ((I.ch.same e4).hc) (by intro z;cases z)
    have VP:x≠ap:=ub wU ((I.ch.same e4).hp) (by intro z;cases z)
    have OK:H5 x=some (.ins C LB (MW L p ar ac ap)):=BW _ _ wU Y2 hxc VP
    have Q7:c≠ar:=fun e=>by have:=(I.ch.same e4).hr;rw[←e,hc]at this;cases this
    have Q8:c≠ac:=fun e=>by have:=(I.ch.same e4).hc;rw[←e,hc]at this;cases this
    have Q9:c≠ap:=fun e=>by have:=(I.ch.same e4).hp;rw[←e,hc]at this;cases this
    have MJ:=OI (p:=p) (m:=m) kZ q
    have Am:cb H5 (l4++[ib]) ((List.range (q+1)).map (kY p m row)):=by
     rw[cQ,bo]
     exact cb.app (cb.keep (fun y hy o ho=>BW y o ho (I.nr y hy).1 (I.nr y hy).2.1 (I.nr y hy).2.2) (I.ch.same e4).rws) ⟨US,trivial⟩
    have UT:cb H5 (asc++[c]) ((List.range (q+1)).map fun j=>(ly p m row j).1):=by
     rw[cQ,bo]
     refine cb.app (cb.keep (fun y hy o ho=>BW y o ho (I.nc y hy).1 (I.nc y hy).2.1 (I.nc y hy).2.2) (I.ch.same e4).cls) ⟨?_,trivial⟩
     rw[k3]
     show _=some (HO.lst (List.map V.int (ly p m row q).1))
     rw[MJ]
    have Y3:H5 ap=some (.lst ((bj ((List.range (q+1)).map fun j=>(ly p m row j).2)).map V.int)):=by
     rw[k4,cQ,bo,a6,jw,MJ]
    have ch5:BS C H5 x L p ar ac ap (l4++[ib]) (asc++[c]) ((List.range (q+1)).map (kY p m row)) ((List.range (q+1)).map fun j=>(ly p m row j).1) ((List.range (q+1)).map fun j=>(ly p m row j).2):=⟨⟨LB,OK⟩,k1,Am,k2,UT,Y3⟩
    refine⟨_,rfl,_,rfl,_,rfl,p,_,_,m,kY p m row q,rfl,⟨a,as,rfl,e5.seq ha,kf.same e5⟩,⟨ib,rfl,cy.of US⟩,by omega,fun r iF=>⟨by rw[EG.PU r iF,xN],Ra r iF⟩,by rw[xN];omega,by rw[EG.L4];omega,fun Wo H6 e6 GP UU=>?_⟩
    obtain⟨UW,Ih⟩:=Ch.kD hp EG (q+1) eI
    have Wq:=ch5.same e6
    refine⟨_,rfl,x,LB,_,rfl,e6 _ _ OK,rfl,_,rfl,x,ar,ac,ap,L,p,_,_,_,_,_,_,kY p m row (q+1),rfl,Wq,⟨Wo,rfl,UU⟩,Ch.qo EG (q+1),by simp,by simp,by simp;omega,?_,?_,by omega,hL,fun d' H7 e7 Ll hd7=>?_⟩
    ·intro cc IW
     obtain⟨j,hj,rfl⟩:=ay.1 IW
     rw[aD]at hj
     refine⟨Ih j hj,fun y hy=>?_⟩
     rw[OI (p:=p) (m:=m) kZ j]at hy
     have:=Ch.oN (p:=p) _ _ y hy
     omega
    ·intro i hi
     obtain⟨j,hj,rfl⟩:=ay.1 hi
     rw[aD]at hj
     exact UW.pl j hj
    ·refine⟨x,Wo,d',ar,ac,ap,l4++[ib],asc++[c],rfl,(e5.trans e6).trans e7,I.fx,I.fr,I.fc,I.fp,I.n1,I.n2,I.n3,?_,?_,?_,Wq.same e7,e7 _ _ UU,?_⟩
     ·intro y hy
      rcases bP.1 hy with hy|hy
      ·exact I.nr y hy
      ·rw[aQ]at hy
       rw[hy]
       exact I.ni
     ·intro y hy
      rcases bP.1 hy with hy|hy
      ·exact I.nc y hy
      ·rw[aQ]at hy
       rw[hy]
       exact⟨Q7,Q8,Q9⟩
     ·exact⟨(fun e=>by rw[e,k1]at GP;cases GP),(fun e=>by rw[e,k2]at GP;cases GP),(fun e=>by rw[e,k4]at GP;cases GP)⟩
     ·rw[hd7]
      congr 3
      exact OJ (p:=p) (m:=m) kZ (q+1)
  ·have YQ:q=la.length:=by
    apply ai
    intro adv
    exact hold (BV.2 (Ch.Bf hp EG (by omega) UQ lO))
   subst YQ
   have Y4:=(I.ch.same e4).hr
   refine⟨_,rfl,x,LB,_,rfl,wU,rfl,_,rfl,x,LB,ar,ac,ap,L,p,_,j9 p m row la.length,l4,rfl,wU,Y4,⟨d,rfl,cy.of UR⟩,by rw[r1,MY];omega,fun rl H5 e5 adw UX=>?_⟩
   rw[MY]at UX
   have OL:H5 rl=some (.lst ((sS p m row L la.length).map V.int)):=UX
   have UY:=Ch.zB hp EG
   refine⟨_,rfl,_,rfl,p,_,sS p m row L la.length,rfl,⟨rl,rfl,cy.of OL⟩,by omega,Cm,fun zs H6 e6 hzs Rb=>?_⟩
   rw[Ch.ID hp EG]at Rb
   have Y5:=(e34.trans e5).trans e6
   have Wq:=((I.ch.same e4).same e5).same e6
   refine⟨zs,rfl,⟨_,cy.of Rb⟩,fun D hD=>r6 (iG (cy.of (K:=K) Rb)) (by rw[ae,bj,ae];omega) hD (la.map vv) (by simp[bj]) ?_ ?_⟩
   ·intro i xx H' Z hi e it z
    obtain⟨t,ht,rfl⟩:=kP it
    have UZ:=aL ht
    have Y6:=Wq.same e
    obtain⟨dx7,U0⟩:=Y6.ins
    refine⟨rfl,_,rfl,x,C,dx7,_,_,rfl,U0,R.cl,R.nR,uS L p ar ac ap,_,rfl,_,rfl,_,rfl,p,hz,L,_,_,(List.range la.length).map (kY p m row),sS p m row L la.length,(t:Int),rfl,⟨ar,l4,rfl,cy.of Y6.hr,Y6.rws.rows⟩,⟨rl,rfl,cy.of ((e6.trans e) _ _ OL)⟩,hp,Cm,hL,?_,by simp;omega,by rw[UY];simp,?_,fun y H8 e8 hy hy8=>?_⟩
    ·intro e0
     have:=ba List.length e0
     simp at this
     rw[this]at UZ
     cases UZ
    ·intro r iF
     obtain⟨j,_,rfl⟩:=ay.1 iF
     exact⟨Ch.qo EG j,Ch.IA EG j⟩
    ·rw[(Ch.L5 hp EG UZ).2]at hy8
     exact z y (vv t) H8 e8 hy (by rw[ag,ht];rfl) hy8
   ·intro H' Yy e rY j7 Gv _
    refine k D Yy H' (Y5.trans e) (cg Y5 hD) (fun y hy=>cg Y5 (Gv y hy).1) rY j7
end
end GT
end
section
namespace GT
open PySem PySem.Spec PyProof.Rows L2
open Rd01 (Grp factsOf)
theorem DK{α:Type}{l m:List α}{j:Nat}{x:α}(hl:l.length=m.length)(hj:j<l.length)(h1:m[j]? =some x)(h2: ∀i,i≠j→l[i]? =m[i]?):l.set j x=m:=by
 apply List.ext_getElem?
 intro i
 by_cases e:i=j
 ·subst e
  rw[k8 hj,h1]
 ·rw[nH (fun h=>e h.symm),h2 i e]
section
variable{P:Program}{w:World}{K:W.Frag}{mg:Str→Option Value}{base:Heap}
def o7(g:Grp)(i j:Nat):List V:=(List.range g.n).map fun a=>if Sp.dQ g a<i then V.int ((factsOf g).classOf a:Nat)else if((List.range j).any fun x=>Sp.cj g x i==a)=true then V.int (Sp.below g i:Nat)else V.fC
theorem kQ(g:Grp)(i j:Nat):(o7 g i j).length=g.n:=by simp[o7]
theorem r9(g:Grp)(i j:Nat){a:Nat}(ha:a<g.n):(o7 g i j)[a]? =some (if Sp.dQ g a<i then V.int ((factsOf g).classOf a:Nat)else if((List.range j).any fun x=>Sp.cj g x i==a)=true then V.int (Sp.below g i:Nat)else V.fC):=by
 rw[o7,ag,aX ha]
 rfl
theorem Kd{g:Grp}(hg:Sp.jO g){i j:Nat}(hi:i<g.n)(hj:j<g.n)(hr:Sp.dQ g i=i):(o7 g i j).set (Sp.cj g j i) (V.int (Sp.below g i:Nat))=o7 g i (j+1):=by
 have hc:=Sp.Ef hg hj hi
 apply DK (by rw[kQ,kQ]) (by rw[kQ];exact hc)
 ·rw[r9 g i (j+1) hc,Sp.lp hg hj hi,hr,aI (by omega),aO]
  rw[cS]
  exact⟨j,by simp,by simp⟩
 ·intro a df
  by_cases ha:a<g.n
  ·rw[r9 g i j ha,r9 g i (j+1) ha]
   have:((List.range (j+1)).any fun x=>Sp.cj g x i==a)=((List.range j).any fun x=>Sp.cj g x i==a):=by
    rw[cQ,List.any_append,sm,List.any_nil,Bool.or_false]
    have:(Sp.cj g j i==a)=false:=by simpa using fun e:Sp.cj g j i=a=>df e.symm
    rw[this,Bool.or_false]
   rw[this]
  ·rw[cN (by rw[kQ];omega),cN (by rw[kQ];omega)]
theorem GQ{g:Grp}(hg:Sp.jO g){i:Nat}(hi:i<g.n)(hr:Sp.dQ g i=i):o7 g i g.n=o7 g (i+1) 0:=by
 unfold o7
 apply bM
 intro a ha
 rw[aD]at ha
 have h0:((List.range 0).any fun x=>Sp.cj g x (i+1)==a)=false:=rfl
 rw[h0]
 by_cases h1:Sp.dQ g a<i
 ·rw[aO h1,aO (by omega)]
 ·rw[aI h1]
  by_cases h2:Sp.dQ g a=i
  ·have h3:((List.range g.n).any fun x=>Sp.cj g x i==a)=true:=by
    obtain⟨x,hx,e⟩:=(Sp.Ep hg hi hr ha).1 h2
    rw[cS]
    exact⟨x,by simpa using hx,by simpa using e.symm⟩
   rw[aO h3,aO (by omega),Sp.II hg ha,h2]
  ·have h3: ¬((List.range g.n).any fun x=>Sp.cj g x i==a)=true:=by
    intro h4
    rw[cS]at h4
    obtain⟨x,hx,e⟩:=h4
    exact h2 ((Sp.Ep hg hi hr ha).2 ⟨x,by simpa using hx,by simpa using(cV.1 e).symm⟩)
   rw[aI h3,aI (by omega)]
   rfl
theorem GR{g:Grp}(hg:Sp.jO g){i:Nat}(hi:i<g.n)(hr:Sp.dQ g i≠i):o7 g i 0=o7 g (i+1) 0:=by
 unfold o7
 apply bM
 intro a ha
 rw[aD]at ha
 show(if Sp.dQ g a<i then _ else if false=true then _ else _)=(if Sp.dQ g a<i+1 then _ else if false=true then _ else _)
 by_cases h1:Sp.dQ g a<i
 ·rw[aO h1,aO (by omega)]
 ·have h2:Sp.dQ g a≠i:=by
   intro e
   apply hr
   rw[←e,Sp.Eg hg ha]
  have h3: ¬Sp.dQ g a<i+1:=by omega
  rw[aI h1,aI h3]
  rfl
theorem Ke{g:Grp}(hg:Sp.jO g):o7 g g.n 0=(Sp.sM g).map V.int:=by
 unfold o7 Sp.sM
 rw[aU]
 apply bM
 intro a ha
 rw[aD]at ha
 rw[aO (Sp.Ie hg ha)]
 rfl
def Kf(K:W.Frag):Sp:=fun vs H Q _=>∃(v u:V)(g:Grp),vs=[v,u]∧TL K H v (Sp.cI g)∧IL K H u (Sp.vQ g)∧Sp.jO g∧g.n≤64∧tD H Q (Sp.sM g)
theorem lG:bf ["products","inverses","numbers","known","thing","row","inverse"] ["products","inverses"] (aB gE):=⟨rfl,rfl,rfl,by decide +kernel,rfl,by decide +kernel,by decide +kernel⟩
theorem tG(g:Grp){a:Nat}(ha:a<g.n):((Sp.vQ g).map V.int)[a]? =some (V.int ((factsOf g).inverse a:Nat)):=by
 rw[Sp.vQ,aU,ag,aX ha]
 rfl
theorem BX(g:Grp):(Sp.vQ g).length=g.n:=by simp[Sp.vQ]
theorem Nb{f:Addr}{fd:FuncData}(F:f6 K "number_classes" "number_classes" gE f fd)(T:Txt mg):cF P w K mg base fT 1 f fd ["products","inverses"] (Kf K):=by
 refine F.ok lG (fun vs H Q E h=>?_) (fun eM A outer s H vs Q E hr h=>?_)
 ·obtain⟨v,u,g,rfl,_⟩:=h
  rfl
 ·obtain⟨v,u,g,rfl,⟨a,as,rfl,ha,kf⟩,⟨b,rfl,hb⟩,hg,xw,k⟩:=h
  refine⟨_,ak (gf rfl lG.nd (i:=2) rfl rfl (by rfl) (d8 (L2.pv 0)) (own:=[("thing",4)]) (cB (by show ij ["products","inverses","numbers","known","thing","row","inverse"] (aB gE) _ _=true;decide +kernel))
    (fun s H C cl fp=>bE (i:=4) lG.nd rfl (Or.inl rfl)) (fun s H C cl fp=>cZ) (fun s H C cl fp=>sU))
   (ak (bI (i:=3) lG.nd rfl (Or.inl rfl) bG)
   (ak (gc bx rfl (fQ rfl T.range (ah (bZ bN (by rfl) T.len bK (ah (L2.pv 0) ax)) ax)) (bE (i:=4) lG.nd rfl (Or.inl rfl))
    (aA (dR (zL (zK (cK bH (L2.pv 2) (L2.pv 4) (fun _ _=>rfl))))
     (ak (gc bx rfl (wF rfl T.zip (ah (L2.pv 0) (ah (L2.pv 1) ax)))
       (g:=xS K 2 (iS (gM 5) (iS (gM 6) xR))) (lQ rfl (dz (bE (i:=5) lG.nd rfl (Or.inl rfl) (.inr rfl)) (dz (bE (i:=6) lG.nd rfl (Or.inl rfl) (.inr rfl)) jy)))
      (aA (De (L2.pv 3) (Dc (L2.pv 2) (cK bH (cK bH (L2.pv 0) (cK bH (L2.pv 5) (L2.pv 4) (fun _ _=>rfl)) (fun _ _=>rfl)) (L2.pv 6) (fun _ _=>rfl)) set_list))))
     (aA (sV (i:=3) lG.nd rfl (Or.inl rfl) bG qr)))
     cq)))
   (aA (a9 (L2.pv 2))))),?_⟩
  have hlen:as.length=g.n:=by rw[kf.len,Sp.ek]
  have oj:(as.map V.ref).length=g.n:=by rw[ae,hlen]
  refine⟨_,rfl,a,rfl,⟨_,ha⟩,fun D hD=>eg (iG ha) (by rw[oj];omega) hD (o7 g 0 0) (by rw[kQ,oj]) ?_ ?_⟩
  ·intro i x H' Z hi e it z
   rw[oj]at hi
   refine⟨rfl,z _ _ a0.refl ?_⟩
   rw[r9 g 0 0 hi,aI (by omega)]
   rfl
  ·intro H1 e1 Ff
   refine⟨_,rfl,a,_,rfl,.inl (e1.seq ha),_,rfl,by rw[oj];omega,by rw[oj];omega,?_⟩
   have rZ:(((as.map V.ref).length:Nat):Int).toNat=g.n:=by rw[oj];exact aY g.n
   rw[rZ]
   refine jt wM (fun i σ H'=>∃(v4 v5 v6:Option V),σ=[some (.ref a),some (.ref b),some (.ref D),some (.int (Sp.below g i:Nat)),v4,v5,v6]∧a0 H H'∧H' D=some (.lst (o7 g i 0)))
    ⟨none,none,none,(by rw[Sp.CT];rfl),e1,Ff⟩ (fun _ _ _ _=>trivial) ?_ ?_
   ·rintro i x σ H2 H3 hi ⟨v4,v5,v6,rfl,e2,o6⟩ e3 rfl
    have sv:=e2.trans e3
    have xy:=e3 _ _ o6
    rw[fj]
    refine⟨_,rfl,_,rfl,D,_,_,_,rfl,rfl,cy.of xy,at_of (j:=i) rfl (r9 g i 0 hi),_,rfl,?_⟩
    have hle:=Sp.Io hg hi
    by_cases GS:Sp.dQ g i=i
    ·rw[GS,aI (eh i)]
     have h0:((List.range 0).any fun x=>Sp.cj g x i==i)=false:=rfl
     rw[h0]
     refine⟨_,rfl,_,rfl,a,b,_,_,rfl,sv.seq ha,sv.seq hb,jt (DE (K:=K) (a:=a) (b:=b) (xs:=as.map V.ref) (ys:=(Sp.vQ g).map V.int) (by rw[oj,ae,BX]))
      (fun j σ H'=>∃(v5 v6:Option V),σ=[some (.ref a),some (.ref b),some (.ref D),some (.int (Sp.below g i:Nat)),some (.int (i:Nat)),v5,v6]∧a0 H H'∧H' D=some (.lst (o7 g i j)))
      ⟨v5,v6,rfl,sv,xy⟩ (fun j σ H'⟨_,_,_,e,_⟩=>⟨e.seq ha,e.seq hb⟩) ?_ ?_⟩
     ·rintro j x σ H4 H5 hj ⟨v5,v6,rfl,e4,yN⟩ e5 ⟨Tt,x1,x2,rfl,h1,h2,hT⟩
      rw[oj]at hj
      obtain⟨c,hc,rfl⟩:=er h1
      rw[tG g hj]at h2
      cases h2
      obtain⟨c',qL,i9⟩:=kf.get (i:=j) (by rw[Sp.ek];exact hj)
      rw[hc]at qL
      cases qL
      have uz:=e4.trans e5
      have yw:=Sp.jQ hg hj hi
      obtain⟨c2,So,U1⟩:=kf.get (i:=(factsOf g).mul j i) (by rw[Sp.ek];exact yw)
      have xN:=Sp.jR hg hj
      refine⟨Tt,_,rfl,.inl (.inl hT),rfl,_,_,rfl,_,_,rfl,rfl,_,rfl,_,rfl,_,rfl,_,rfl,_,rfl,c,_,_,_,rfl,rfl,uz.seq i9,at_of (j:=i) rfl (sx (by rw[Sp.dG hg hj];exact hi)),a,_,_,_,rfl,rfl,uz.seq ha,at_of (j:=(factsOf g).mul j i) (Sp.jl hg hj hi) (by rw[ag,So];rfl),_,rfl,c2,_,_,_,rfl,rfl,uz.seq U1,at_of (j:=(factsOf g).inverse j) rfl (sx (by rw[Sp.dG hg yw];exact xN)),
       D,_,_,Sp.cj g j i,rfl,rfl,e5 _ _ yN,?_,some (.ref c),some (.int ((factsOf g).inverse j:Nat)),rfl,a0.fO hD uz,?_⟩
      ·rw[kQ,Sp.jl hg yw xN]
       exact uT (Sp.Ef hg hj hi)
      ·rw[au,Kd hg hi hj GS]
     ·rintro σ H4 ⟨v5,v6,rfl,e4,yN⟩
      rw[oj,GQ hg hi GS]at yN
      refine⟨_,rfl,_,_,rfl,rfl,some (.int (i:Nat)),v5,v6,?_,e4,yN⟩
      rw[Sp.vU hg hi,aO GS]
      push_cast
      rfl
    ·rw[aO (by omega)]
     refine⟨some (.int (i:Nat)),v5,v6,?_,sv,?_⟩
     ·rw[Sp.vU hg hi,aI GS,Nat.add_zero]
      rfl
     ·rw[xy,GR hg hi GS]
   ·rintro σ H2 ⟨v4,v5,v6,rfl,e2,o6⟩
    rw[Ke hg]at o6
    exact⟨_,rfl,k _ _ e2 hD o6⟩
def jB(g:Grp)(j:Nat):List (List Int):=(List.range (factsOf g).many).map fun i=>(((List.range j).filter fun a=>(factsOf g).classOf a==i).map fun(x:Nat)=>(x:Int))
def OM(K:W.Frag):Sp:=fun vs H Q _=>∃(v:V)(g:Grp),vs=[v]∧IL K H v (Sp.sM g)∧Sp.jO g∧g.n≤64∧JY H Q (Sp.Bl g)
theorem wV:bf ["class_numbers","members","thing","number"] ["class_numbers"] (aB fY):=⟨rfl,rfl,rfl,by decide +kernel,rfl,by decide +kernel,by decide +kernel⟩
theorem DL(g:Grp){a:Nat}(ha:a<g.n):(Sp.sM g)[a]? =some ((factsOf g).classOf a:Int):=by
 rw[Sp.sM,ag,aX ha]
 rfl
theorem wW(g:Grp):(Sp.sM g).length=g.n:=by simp[Sp.sM]
theorem Rc{f:Addr}{fd:FuncData}(F:f6 K "members_of_each" "members_of_each" fY f fd)(T:Txt mg):cF P w K mg base fT 1 f fd ["class_numbers"] (OM K):=by
 refine F.ok wV (fun vs H Q E h=>?_) (fun eM A outer s H vs Q E hr h=>?_)
 ·obtain⟨v,g,rfl,_⟩:=h
  rfl
 ·obtain⟨v,g,rfl,⟨a,rfl,ha⟩,hg,xw,k⟩:=h
  refine⟨_,ak (gf rfl wV.nd (i:=1) rfl rfl (by rfl) (fQ rfl T.range (ah (dF kF (bZ (Jw rfl) (by rfl) T.max boot_max (ah (L2.pv 0) ax)) bG) ax)) (own:=[("number",3)]) (cB (by show ij ["class_numbers","members","thing","number"] (aB fY) _ _=true;decide +kernel))
    (fun s H C cl fp=>bE (i:=3) wV.nd rfl (Or.inl rfl)) (fun s H C cl fp=>cZ) (fun s H C cl fp=>gd ax))
   (ak (gc bx rfl (rS rfl T.enum (ah (L2.pv 0) ax)) (g:=xS K 2 (iS (gM 2) (iS (gM 3) xR))) (lQ rfl (dz (bE (i:=2) wV.nd rfl (Or.inl rfl) (.inr rfl)) (dz (bE (i:=3) wV.nd rfl (Or.inl rfl) (.inr rfl)) jy)))
    (aA (gz (lA bF dN dO jn (cK bH (L2.pv 1) (L2.pv 3) (fun _ _=>rfl)) (ah (L2.pv 2) ax)))))
   (aA (a9 (L2.pv 1)))),?_⟩
  have aaY:=Sp.rG hg
  have Y7:=Sp.lz hg
  refine⟨_,rfl,a,Sp.sM g,rfl,ha,by rw[wW];exact hg.pos,fun mx h1 h2=>?_⟩
  have hmx:mx=(((factsOf g).many-1:Nat):Int):=by
   obtain⟨⟨x,hx,ex⟩,Y8⟩:=Sp.Mb hg
   have h3:=h2 _ (aL (DL g hx))
   obtain⟨y,hy,ey⟩:=ay.1 h1
   rw[aD]at hy
   have h4:=Y8 y hy
   rw[ex]at h3
   omega
  subst hmx
  have rZ:((((factsOf g).many-1:Nat):Int)+1).toNat=(factsOf g).many:=by omega
  refine⟨_,_,rfl,rfl,_,rfl,by omega,by omega,fun D hD=>r6 pk (by rw[rZ];omega) hD (jB g 0) (by rw[rZ];simp[jB]) ?_ ?_⟩
  ·rintro i x H' Z hi e rfl z
   rw[rZ]at hi
   refine⟨rfl,bB _,fun p hp=>z p [] _ (bq hp) hp ?_ ?_⟩
   ·rw[jB,ag,aX hi]
    rfl
   ·rw[au]
    rfl
  ·intro H1 as e1 Ff wX Gv xD
   have Y9:as.length=(factsOf g).many:=by rw[wX.len];simp[jB]
   refine⟨_,rfl,a,_,rfl,e1.seq ha,jt (MT (K:=K) (a:=a) (xs:=(Sp.sM g).map V.int))
    (fun j σ H'=>∃(v2 v3:Option V),σ=[some (.ref a),some (.ref D),v2,v3]∧a0 H H'∧H' D=some (.lst (as.map V.ref))∧cb H' as (jB g j))
    ⟨none,none,rfl,e1,Ff,wX⟩ (fun j σ H'⟨_,_,_,e,_⟩=>e.seq ha) ?_ ?_⟩
   ·rintro j x σ H2 H3 hj ⟨v2,v3,rfl,e2,o6,qC⟩ e3 ⟨Tt,x1,rfl,h1,hT⟩
    rw[ae,wW]at hj
    rw[ag,DL g hj]at h1
    cases h1
    have lO:=Sp.kE hg hj
    obtain⟨y,hy⟩: ∃y,as[(factsOf g).classOf j]? =some y:=⟨_,aj (by omega)⟩
    have Kg:=qC.same e3
    obtain⟨r,iF,Wr⟩:=Kg.at_ hy
    have hrv:r=((List.range j).filter fun a=>(factsOf g).classOf a==(factsOf g).classOf j).map fun(x:Nat)=>(x:Int):=by
     rw[jB,ag,aX lO]at iF
     exact(a7 iF).symm
    have Pd:=Gv y (aL hy)
    have hDy:D≠y:=fun e=>Pd.2 e.symm
    refine⟨Tt,_,rfl,.inl (.inl hT),rfl,_,_,rfl,_,_,rfl,rfl,_,rfl,_,rfl,D,_,_,_,rfl,rfl,cy.of (e3 _ _ o6),at_of (j:=(factsOf g).classOf j) (v:=V.ref y) rfl (by rw[ag,hy];rfl),.inl ⟨rfl,_,cy.of Wr⟩,_,rfl,y,_,_,rfl,rfl,Wr,?_,some (.int (j:Nat)),some (.int ((factsOf g).classOf j:Nat)),rfl,a0.fO Pd.1 (e2.trans e3),?_,?_⟩
    ·rw[ae,hrv,ae]
     have h5:=eB (fun a=>(factsOf g).classOf a==(factsOf g).classOf j) (List.range j)
     rw[bh]at h5
     have:=bD
     omega
    ·rw[aE hDy]
     exact e3 _ _ o6
    ·apply cb.JW as (jB g (j+1)) (by rw[Y9];simp[jB])
     intro i b hb
     have hib:i<(factsOf g).many:=by have:=(aJ.mp hb).1;omega
     refine⟨(((List.range (j+1)).filter fun a=>(factsOf g).classOf a==i).map fun(x:Nat)=>(x:Int)),by rw[jB,ag,aX hib];rfl,?_⟩
     by_cases IP:b=y
     ·subst IP
      have hie:i=(factsOf g).classOf j:=by
       have h6:=aJ.mp hb
       have h7:=aJ.mp hy
       exact(mG xD).1 (h6.2.trans h7.2.symm)
      subst hie
      rw[au,hrv,cQ,gZ,bo,bo,tO (by simp)]
      rfl
     ·rw[aE IP]
      obtain⟨r',h8,h9⟩:=Kg.at_ hb
      rw[jB,ag,aX hib]at h8
      rw[h9,←a7 h8,cQ,gZ]
      have df:((factsOf g).classOf j==i)=false:=by
       apply cO.2
       intro e5
       apply IP
       rw[←e5]at hb
       rw[hb]at hy
       exact a7 hy
      rw[tP (by rw[df];simp),List.filter_nil,dS]
   ·rintro σ H2 ⟨v2,v3,rfl,e2,o6,qC⟩
    rw[ae,wW]at qC
    exact⟨_,rfl,k _ _ _ e2 hD (fun b hb=>(Gv b hb).1) o6 qC⟩
end
end GT
end
section
namespace GT
open PySem PySem.Spec PyProof.Rows L2
open Rd01 (Grp factsOf)
def GU(n p:Nat)(vP vI vN vM vS vc:V):List (Str×V):=[("products",vP),("order",.int (n:Nat)),("inverses",vI),("prime",.int (p:Nat)),("class_numbers",vN),("class_members",vM),("class_sizes",vS),("characters",vc)]
structure jK(K:W.Frag)(C:Addr):Prop where
 cl:Bw K C
 nP:ez K C "products"
 nO:ez K C "order"
 nI:ez K C "inverses"
 nR:ez K C "prime"
 nN:ez K C "class_numbers"
 nM:ez K C "class_members"
 nS:ez K C "class_sizes"
 nC:ez K C "characters"
structure Nc(K:W.Frag)(C:Addr)(H:Hp)(q dx:Addr)(g:Grp)(vP vI vN vM vS vc:V):Prop where
 ins:H q=some (.ins C dx (GU g.n (factsOf g).prime vP vI vN vM vS vc))
 pr:TL K H vP (Sp.cI g)
 iv:IL K H vI (Sp.vQ g)
 nm:IL K H vN (Sp.sM g)
 mb:TL K H vM (Sp.Bl g)
 sz:IL K H vS (Sp.sizeZ g)
def Gr(K:W.Frag)(C:Addr)(H:Hp)(q:Addr)(g:Grp)(vc:V):Prop:=∃dx vP vI vN vM vS,Nc K C H q dx g vP vI vN vM vS vc
theorem Nc.same{K:W.Frag}{C:Addr}{H H':Hp}{q dx:Addr}{g:Grp}{vP vI vN vM vS vc:V}(e:a0 H H')(h:Nc K C H q dx g vP vI vN vM vS vc):Nc K C H' q dx g vP vI vN vM vS vc:=
 ⟨e _ _ h.ins,h.pr.same e,h.iv.same e,h.nm.same e,h.mb.same e,h.sz.same e⟩
theorem Gr.same{K:W.Frag}{C:Addr}{H H':Hp}{q:Addr}{g:Grp}{vc:V}(e:a0 H H')(h:Gr K C H q g vc):Gr K C H' q g vc:=by
 obtain⟨dx,vP,vI,vN,vM,vS,h⟩:=h
 exact⟨dx,vP,vI,vN,vM,vS,h.same e⟩
section
variable(n p:Nat)(vP vI vN vM vS vc:V)
theorem gi:(GU n p vP vI vN vM vS vc).lookup ("products":Str)=some vP:=rfl
theorem jL:(GU n p vP vI vN vM vS vc).lookup ("order":Str)=some (.int (n:Nat)):=rfl
theorem lH:(GU n p vP vI vN vM vS vc).lookup ("inverses":Str)=some vI:=rfl
theorem kR:(GU n p vP vI vN vM vS vc).lookup ("prime":Str)=some (.int (p:Nat)):=rfl
theorem ny:(GU n p vP vI vN vM vS vc).lookup ("class_numbers":Str)=some vN:=rfl
theorem nz:(GU n p vP vI vN vM vS vc).lookup ("class_members":Str)=some vM:=rfl
theorem o8:(GU n p vP vI vN vM vS vc).lookup ("class_sizes":Str)=some vS:=rfl
theorem wY:(GU n p vP vI vN vM vS vc).lookup ("characters":Str)=some vc:=rfl
end
theorem wZ(g:Grp):(factsOf g).prime<10000:=by
 show(((List.range 10000).find? _).getD 0)<10000
 cases e:(List.range 10000).find? fun(p:Nat)=>decide (2*(factsOf g).n<p)&&((p-1) % (factsOf g).exponent==0&&Rd01.isPrime p)with
 |none=>decide
 |some x=>
  have:=List.mem_of_find?_eq_some e
  simpa using this
section
variable{P:Program}{w:World}{K:W.Frag}{mg:Str→Option Value}{base:Heap}
def U2(K:W.Frag):List V→Hp→VK→Prop:=fun xs H Q=>∃p ys,xs=[V.ref p]∧(cy K H p ys∨Ls K H p ys)∧Q (.int ys.length) H
def An(K:W.Frag)(C:Addr):Sp:=fun vs H Q _=>∃(q dx:Addr)(v:V)(g:Grp),vs=[.ref q,v]∧H q=some (.ins C dx [])∧TL K H v (Sp.cI g)∧Sp.jO g∧g.n≤24∧∀H':Hp,ie q H H'→Gr K C H' q g .fC→Q .fC H'
theorem mC:bf ["self","products","order","row","members"] ["self","products"] (aB iX):=⟨rfl,rfl,rfl,by decide +kernel,rfl,by decide +kernel,by decide +kernel⟩
theorem Kh{g:Grp}(hg:Sp.jO g){i m:Nat}(hi:i<g.n)(hm:m<g.n)(h:(factsOf g).mul i m=0):m=(factsOf g).inverse i:=by
 have:=(Sp.gp hg).sD (a:=⟨i,hi⟩) (b:=⟨m,hm⟩) (du h)
 exact ba Fin.val this
theorem ie.gj{q:Addr}{H H1 H2:Hp}(a:ie q H H1)(b:a0 H1 H2):ie q H H2:=fun c o h hc=>b c o (a c o h hc)
theorem ie.store{q:Addr}{H H1:Hp}{o:HO}(a:ie q H H1):ie q H (L2.upd H1 q o):=fun c u h hc=>by rw[aE hc];exact a c u h hc
theorem Ki{f C:Addr}{fd:FuncData}(F:f6 K "__init__" "Group.__init__" iX f fd)(T:Txt mg)(R:jK K C)(c1:iJ P w K mg base 2 "least_prime" ["bound","step"] E5)(c2:iJ P w K mg base 1 "exponent" ["products"] (OD K))
  (c3:iJ P w K mg base 1 "number_classes" ["products","inverses"] (Kf K))(c4:iJ P w K mg base 1 "members_of_each" ["class_numbers"] (OM K)):cF P w K mg base fT 3 f fd ["self","products"] (An K C):=by
 refine F.ok mC (fun vs H Q E h=>?_) (fun eM A outer s H vs Q E hr h=>?_)
 ·obtain⟨q,dx,v,g,rfl,_⟩:=h
  rfl
 ·obtain⟨q,dx,v,g,rfl,hq,hv,hg,g6,k⟩:=h
  have tF:dY 1 _:=hr.mono (by omega)
  refine⟨_,ak (bI (i:=2) mC.nd rfl (Or.inl rfl) (bZ bN (by rfl) T.len bK (ah (L2.pv 1) ax)))
   (ak (fu (L2.pv 0) (L2.pv 1) rfl)
   (ak (fu (L2.pv 0) (L2.pv 2) rfl)
   (ak (fu (L2.pv 0) (je rfl mC.nd (d8 (L2.pv 1)) (own:=[("row",3)]) (cB (by show ij ["self","products","order","row","members"] (aB iX) _ _=true;decide +kernel)) (fun s H C cl fp=>bE (i:=3) mC.nd rfl (Or.inl rfl)) (fun s H C cl fp=>cZ)
    (te:=tBM K _ (Jx K) _ _) (fun s H C cl fp=>lA bF PySem.F.slot_list_index PySem.F.type_list_index Jy (L2.pv 3) (ah bG ax))) rfl)
   (ak (fu (L2.pv 0) (bQ c1 hr rfl (ah (dF jm bG (L2.pv 2)) (ah (bQ c2 tF rfl (ah (L2.pv 1) ax)) ax))) rfl)
   (ak (fu (L2.pv 0) (bQ c3 tF rfl (ah (L2.pv 1) (ah (bz (L2.pv 0) rfl) ax))) rfl)
   (ak (fu (L2.pv 0) (bQ c4 tF rfl (ah (bz (L2.pv 0) rfl) ax)) rfl)
   (ak (fu (L2.pv 0) (je rfl mC.nd (d8 (bz (L2.pv 0) rfl)) (own:=[("members",4)]) (cB (by show ij ["self","products","order","row","members"] (aB iX) _ _=true;decide +kernel)) (fun s H C cl fp=>bE (i:=4) mC.nd rfl (Or.inl rfl)) (fun s H C cl fp=>cZ)
    (te:=XU (U2 K) _) (fun s H C cl fp=>bZ (show jI _ _ (U2 K)from bN) (by rfl) T.len bK (ah (L2.pv 4) ax))) rfl)
   (aA (fu (L2.pv 0) sU rfl))))))))),?_⟩
  obtain⟨a,as,rfl,ha,kf⟩:=hv
  have hlen:as.length=g.n:=by rw[kf.len,Sp.ek]
  have oj:(as.map V.ref).length=g.n:=by rw[ae,hlen]
  obtain⟨uV,GV,pr3,pr4⟩:=Sp.fF hg g6
  obtain⟨YS,ex2,_⟩:=Sp.gU hg
  have Y7:=Sp.lz hg
  refine⟨_,rfl,a,_,rfl,.inl ha,?_⟩
  rw[oj]
  refine⟨_,rfl,_,rfl,q,C,dx,_,rfl,hq,R.cl,R.nP,(by show 0<1000;decide),?_⟩
  refine⟨_,rfl,_,rfl,q,C,dx,_,rfl,au,R.cl,R.nO,(by show 1<1000;decide),?_⟩
  have FY:upd (upd H q (.ins C dx (et "products" (.ref a) []))) q (.ins C dx (et "order" (.int (g.n:Nat)) (et "products" (.ref a) []))) q=some (.ins C dx [("products",.ref a),("order",.int (g.n:Nat))]):=au
  have b2:ie q H (upd (upd H q (.ins C dx (et "products" (.ref a) []))) q (.ins C dx (et "order" (.int (g.n:Nat)) (et "products" (.ref a) [])))):=ie.upd.store
  generalize upd (upd H q (.ins C dx (et "products" (.ref a) []))) q (.ins C dx (et "order" (.int (g.n:Nat)) (et "products" (.ref a) [])))=H2 at FY b2
  have RV:=b2.seq hq ha
  have Za:=b2.rows hq kf
  refine⟨_,rfl,a,rfl,⟨_,RV⟩,fun D hD=>eg (iG RV) (by rw[oj];omega) hD ((Sp.vQ g).map V.int) (by rw[ae,BX,oj]) ?_ ?_⟩
  ·intro i x H' Z hi e it z
   rw[oj]at hi
   obtain⟨b,hb,rfl⟩:=er it
   obtain⟨b',ke,i9⟩:=Za.get (i:=i) (by rw[Sp.ek];exact hi)
   rw[hb]at ke
   cases ke
   have ON:=e.seq i9
   have xN:=Sp.jR hg hi
   have kZ:=Sp.dG hg hi
   refine⟨rfl,_,rfl,.inl ⟨rfl,_,ON⟩,b,_,_,(factsOf g).inverse i,_,rfl,rfl,ON,rfl,tw _,sx (by rw[kZ];exact xN),?_,?_,z _ _ a0.refl (tG g hi)⟩
   ·show(((Sp.cI g).getD i []).getD ((factsOf g).inverse i) 0==0)=true
    rw[Sp.jl hg hi xN]
    have:=(Sp.fE hg hi).2
    have h2:(factsOf g).mul i ((factsOf g).inverse i)=0:=this
    rw[h2]
    rfl
   ·intro m z' hm xF
    have yw:m<g.n:=by omega
    rw[sx (by rw[kZ];exact yw)]at xF
    cases xF
    show(((Sp.cI g).getD i []).getD m 0==0)=false
    rw[Sp.jl hg hi yw]
    cases e5:(((factsOf g).mul i m:Nat):Int)==0 with
    |false=>rfl
    |true=>
     have h3:(factsOf g).mul i m=0:=by have:=eq_of_beq e5;omega
     have:=Kh hg hi yw h3
     omega
  ·intro H3 e3 xy
   have b3:=b2.gj e3
   refine⟨_,rfl,q,C,dx,_,rfl,e3 _ _ FY,R.cl,R.nI,(by show 2<1000;decide),?_⟩
   have JX:q≠D:=aK FY hD
   have Td:upd H3 q (.ins C dx (et "inverses" (.ref D) [("products",.ref a),("order",.int (g.n:Nat))])) q=some (.ins C dx [("products",.ref a),("order",.int (g.n:Nat)),("inverses",.ref D)]):=au
   have b4:ie q H (upd H3 q (.ins C dx (et "inverses" (.ref D) [("products",.ref a),("order",.int (g.n:Nat))]))):=b3.store
   have yN:upd H3 q (.ins C dx (et "inverses" (.ref D) [("products",.ref a),("order",.int (g.n:Nat))])) D=some (.lst ((Sp.vQ g).map V.int)):=by
    rw[aE JX.symm]
    exact xy
   generalize upd H3 q (.ins C dx (et "inverses" (.ref D) [("products",.ref a),("order",.int (g.n:Nat))]))=H4 at Td b4 yN
   have Zb:TL K H4 (.ref a) (Sp.cI g):=⟨a,as,rfl,b4.seq hq ha,b4.rows hq kf⟩
   refine⟨_,rfl,_,_,rfl,rfl,.inl ⟨by decide,by decide⟩,_,rfl,_,g,rfl,Zb,hg,by omega,fun H5 e5=>?_⟩
   refine⟨2*g.n,(factsOf g).exponent,(factsOf g).prime,?_,YS,uV,GV,pr3,by have:=wZ g;omega,pr4,?_⟩
   ·push_cast
    rfl
   have b5:=b4.gj e5
   refine⟨_,rfl,q,C,dx,_,rfl,e5 _ _ Td,R.cl,R.nR,(by show 3<1000;decide),?_⟩
   have Wt:upd H5 q (.ins C dx (et "prime" (.int ((factsOf g).prime:Nat)) [("products",.ref a),("order",.int (g.n:Nat)),("inverses",.ref D)])) q=some (.ins C dx [("products",.ref a),("order",.int (g.n:Nat)),("inverses",.ref D),("prime",.int ((factsOf g).prime:Nat))]):=au
   have b6:ie q H (upd H5 q (.ins C dx (et "prime" (.int ((factsOf g).prime:Nat)) [("products",.ref a),("order",.int (g.n:Nat)),("inverses",.ref D)]))):=b5.store
   have Zc:upd H5 q (.ins C dx (et "prime" (.int ((factsOf g).prime:Nat)) [("products",.ref a),("order",.int (g.n:Nat)),("inverses",.ref D)])) D=some (.lst ((Sp.vQ g).map V.int)):=by
    rw[aE JX.symm]
    exact e5 _ _ yN
   generalize upd H5 q (.ins C dx (et "prime" (.int ((factsOf g).prime:Nat)) [("products",.ref a),("order",.int (g.n:Nat)),("inverses",.ref D)]))=H6 at Wt b6 Zc
   have tl6:TL K H6 (.ref a) (Sp.cI g):=⟨a,as,rfl,b6.seq hq ha,b6.rows hq kf⟩
   refine⟨_,rfl,_,rfl,q,C,dx,_,_,rfl,Wt,R.cl,R.nI,rfl,_,_,g,rfl,tl6,⟨D,rfl,cy.of Zc⟩,hg,by omega,fun N H7 e7 hN hN7=>?_⟩
   have b7:=b6.gj e7
   have Wu:q≠N:=aK Wt hN
   refine⟨_,rfl,q,C,dx,_,rfl,e7 _ _ Wt,R.cl,R.nN,(by show 4<1000;decide),?_⟩
   have Sq:upd H7 q (.ins C dx (et "class_numbers" (.ref N) [("products",.ref a),("order",.int (g.n:Nat)),("inverses",.ref D),("prime",.int ((factsOf g).prime:Nat))])) q=some (.ins C dx [("products",.ref a),("order",.int (g.n:Nat)),("inverses",.ref D),("prime",.int ((factsOf g).prime:Nat)),("class_numbers",.ref N)]):=au
   have b8:ie q H (upd H7 q (.ins C dx (et "class_numbers" (.ref N) [("products",.ref a),("order",.int (g.n:Nat)),("inverses",.ref D),("prime",.int ((factsOf g).prime:Nat))]))):=b7.store
   have hD8:upd H7 q (.ins C dx (et "class_numbers" (.ref N) [("products",.ref a),("order",.int (g.n:Nat)),("inverses",.ref D),("prime",.int ((factsOf g).prime:Nat))])) D=some (.lst ((Sp.vQ g).map V.int)):=by
    rw[aE JX.symm]
    exact e7 _ _ Zc
   have Zd:upd H7 q (.ins C dx (et "class_numbers" (.ref N) [("products",.ref a),("order",.int (g.n:Nat)),("inverses",.ref D),("prime",.int ((factsOf g).prime:Nat))])) N=some (.lst ((Sp.sM g).map V.int)):=by
    rw[aE Wu.symm]
    exact hN7
   generalize upd H7 q (.ins C dx (et "class_numbers" (.ref N) [("products",.ref a),("order",.int (g.n:Nat)),("inverses",.ref D),("prime",.int ((factsOf g).prime:Nat))]))=H8 at Sq b8 hD8 Zd
   refine⟨_,rfl,q,C,dx,_,_,rfl,Sq,R.cl,R.nN,rfl,_,g,rfl,⟨N,rfl,cy.of Zd⟩,hg,by omega,fun M ms H9 e9 hM sT hM9 Rf=>?_⟩
   have b9:=b8.gj e9
   have Ze:q≠M:=aK Sq hM
   refine⟨_,rfl,q,C,dx,_,rfl,e9 _ _ Sq,R.cl,R.nM,(by show 5<1000;decide),?_⟩
   have Nd:upd H9 q (.ins C dx (et "class_members" (.ref M) [("products",.ref a),("order",.int (g.n:Nat)),("inverses",.ref D),("prime",.int ((factsOf g).prime:Nat)),("class_numbers",.ref N)])) q=some (.ins C dx [("products",.ref a),("order",.int (g.n:Nat)),("inverses",.ref D),("prime",.int ((factsOf g).prime:Nat)),("class_numbers",.ref N),("class_members",.ref M)]):=au
   have GW:ie q H9 (upd H9 q (.ins C dx (et "class_members" (.ref M) [("products",.ref a),("order",.int (g.n:Nat)),("inverses",.ref D),("prime",.int ((factsOf g).prime:Nat)),("class_numbers",.ref N)]))):=ie.upd
   generalize upd H9 q (.ins C dx (et "class_members" (.ref M) [("products",.ref a),("order",.int (g.n:Nat)),("inverses",.ref D),("prime",.int ((factsOf g).prime:Nat)),("class_numbers",.ref N)]))=Yj at Nd GW
   have Zf:ie q H Yj:=b9.trans GW
   have QE:=GW _ _ (e9 _ _ hD8) JX.symm
   have Zg:=GW _ _ (e9 _ _ Zd) Wu.symm
   have Rg:=GW _ _ hM9 Ze.symm
   have Ao:cb Yj ms (Sp.Bl g):=Rf.but GW (fun y hy e=>by have:=sT y hy;rw[e,Sq]at this;cases this)
   have yw:ms.length=(factsOf g).many:=by rw[Ao.len,Sp.rF hg]
   refine⟨_,rfl,q,C,dx,_,_,rfl,Nd,R.cl,R.nM,rfl,M,rfl,⟨_,cy.of Rg⟩,fun S hS=>eg (iG (cy.of (K:=K) Rg)) (by rw[ae];omega) hS ((Sp.sizeZ g).map V.int) (by simp[Sp.sizeZ,yw]) ?_ ?_⟩
   ·intro i x H' Z hi e it z
    rw[ae,yw]at hi
    obtain⟨b,hb,rfl⟩:=er it
    obtain⟨r,iF,Fh⟩:=Ao.at_ hb
    rw[Sp.Er hg hi]at iF
    cases iF
    refine⟨rfl,_,rfl,b,_,rfl,.inl (cy.of (e _ _ Fh)),z _ _ a0.refl ?_⟩
    rw[Sp.sizeZ,aU,ag,aX hi,ae,ae,Sp.IJ hg hi]
    rfl
   ·intro H11 Kj Zh
    have Zi:q≠S:=aK Nd hS
    refine⟨_,rfl,q,C,dx,_,rfl,Kj _ _ Nd,R.cl,R.nS,(by show 6<1000;decide),?_⟩
    refine⟨_,rfl,q,C,dx,_,rfl,au,R.cl,R.nC,(by show 7<1000;decide),?_⟩
    refine k _ ((Zf.gj Kj).store.store) ⟨dx,.ref a,.ref D,.ref N,.ref M,.ref S,au,?_,?_,?_,?_,?_⟩
    ·exact⟨a,as,rfl,((Zf.gj Kj).store.store).seq hq ha,((Zf.gj Kj).store.store).rows hq kf⟩
    ·exact⟨D,rfl,cy.of (by rw[aE JX.symm,aE JX.symm];exact Kj _ _ QE)⟩
    ·exact⟨N,rfl,cy.of (by rw[aE Wu.symm,aE Wu.symm];exact Kj _ _ Zg)⟩
    ·refine⟨M,ms,rfl,cy.of (by rw[aE Ze.symm,aE Ze.symm];exact Kj _ _ Rg),cb.rows (cb.keep (fun y hy o ho=>?_) (Ao.same Kj))⟩
     have Wv:y≠q:=fun e=>by have:=sT y hy;rw[e,Sq]at this;cases this
     rw[aE Wv,aE Wv]
     exact ho
    ·exact⟨S,rfl,cy.of (by rw[aE Zi.symm,aE Zi.symm];exact Zh)⟩
end
end GT
end
section
namespace GT
open PySem PySem.Spec PyProof.Rows L2
open Rd01 (Grp factsOf)
def U3(K:W.Frag):V→V→Hp→VK→Prop:=fun o i H Q=>∃p xs j v,o=.ref p∧i=.int ((j:Nat):Int)∧cy K H p xs∧xs[j]? =some v∧Q v H
theorem Kk{X:Cx}:TJ X (U3 X.K):=by
 intro pins s σ H o i ov iv Q I ro ri h
 obtain⟨p,xs,j,v,rfl,rfl,hq,he,q⟩:=h
 cases ro
 obtain⟨t,rfl⟩:=ri
 obtain⟨cw,r,pl,hz⟩:=I.list hq
 obtain⟨w,ew,XX⟩:=r.get he
 have hl:=r.length
 have hj:=(aJ.mp he).1
 have hn:=zO
 refine wpAny_getItem_list pl.isList (by omega) (by omega) (x:=w) ?_ ⟨v,H,I,XX,q⟩
 rw[aY]
 simpa using ew
section
variable{P:Program}{w:World}{K:W.Frag}{mg:Str→Option Value}{base:Heap}
def sf(K:W.Frag)(C:Addr):Sp:=fun vs H Q _=>∃(q:Addr)(g:Grp)(vc:V)(z:Int),vs=[.ref q,.int z]∧Gr K C H q g vc∧Q (.bl (Rd01.below z g.n)) H
theorem Kl:bf ["self","thing"] ["self","thing"] (aB iY):=⟨rfl,rfl,rfl,by decide +kernel,rfl,by decide +kernel,by decide +kernel⟩
theorem Km{f C:Addr}{fd:FuncData}(F:f6 K "has_thing" "Group.has_thing" iY f fd)(R:jK K C):cF P w K mg base fT 1 f fd ["self","thing"] (sf K C):=by
 refine F.ok Kl (fun vs H Q E h=>?_) (fun eM A outer s H vs Q E hr h=>?_)
 ·obtain⟨q,g,vc,z,rfl,_⟩:=h
  rfl
 ·obtain⟨q,g,vc,z,rfl,⟨dx,vP,vI,vN,vM,vS,G⟩,k⟩:=h
  refine⟨_,aA (a9 (Bu uc wu bG (L2.pv 1) (bz (L2.pv 0) rfl))),?_⟩
  refine⟨_,rfl,_,_,rfl,rfl,_,rfl,?_⟩
  refine gA (fun h1=>?_) (fun h1=>?_)
  ·refine⟨_,rfl,q,C,dx,_,_,rfl,G.ins,R.cl,R.nO,jL _ _ _ _ _ _ _ _,_,_,rfl,rfl,?_⟩
   have e:Rd01.below z g.n=decide (z<(g.n:Int)):=by unfold Rd01.below;rw[h1,Bool.true_and]
   rw[e]at k
   exact k
  ·have e:Rd01.below z g.n=false:=by unfold Rd01.below;rw[fz]at h1;rw[h1,jd]
   rw[e]at k
   exact k
theorem pR(g:Grp):(Sp.sizeZ g).length=(factsOf g).many:=by simp[Sp.sizeZ]
def nA(K:W.Frag)(C:Addr):Sp:=fun vs H Q _=>∃(q:Addr)(g:Grp)(vc:V)(z:Int),vs=[.ref q,.int z]∧Gr K C H q g vc∧Q (.bl (Rd01.below z (factsOf g).many)) H
theorem Rh:bf ["self","number"] ["self","number"] (aB iZ):=⟨rfl,rfl,rfl,by decide +kernel,rfl,by decide +kernel,by decide +kernel⟩
theorem Ri{f C:Addr}{fd:FuncData}(F:f6 K "has_class" "Group.has_class" iZ f fd)(T:Txt mg)(R:jK K C):cF P w K mg base fT 1 f fd ["self","number"] (nA K C):=by
 refine F.ok Rh (fun vs H Q E h=>?_) (fun eM A outer s H vs Q E hr h=>?_)
 ·obtain⟨q,g,vc,z,rfl,_⟩:=h
  rfl
 ·obtain⟨q,g,vc,z,rfl,⟨dx,vP,vI,vN,vM,vS,G⟩,k⟩:=h
  refine⟨_,aA (a9 (Bu uc wu bG (L2.pv 1) (bZ bN (by rfl) T.len bK (ah (bz (L2.pv 0) rfl) ax)))),?_⟩
  obtain⟨sa,rfl,Rj⟩:=G.sz
  refine⟨_,rfl,_,_,rfl,rfl,_,rfl,?_⟩
  refine gA (fun h1=>?_) (fun h1=>?_)
  ·refine⟨_,rfl,q,C,dx,_,_,rfl,G.ins,R.cl,R.nS,o8 _ _ _ _ _ _ _ _,sa,_,rfl,.inl Rj,_,_,rfl,rfl,?_⟩
   have e:Rd01.below z (factsOf g).many=decide (z<((factsOf g).many:Int)):=by unfold Rd01.below;rw[h1,Bool.true_and]
   rw[e]at k
   rw[ae,pR]
   exact k
  ·have e:Rd01.below z (factsOf g).many=false:=by unfold Rd01.below;rw[fz]at h1;rw[h1,jd]
   rw[e]at k
   exact k
theorem Rk:bf ["self","number"] ["self","number"] (aB fU):=⟨rfl,rfl,rfl,by decide +kernel,rfl,by decide +kernel,by decide +kernel⟩
theorem Rl{f C:Addr}{fd:FuncData}(F:f6 K "has_character" "Group.has_character" fU f fd)(R:jK K C)(m1:jX P w K mg base 1 C "has_class" ["self","number"] (nA K C)):cF P w K mg base fT 2 f fd ["self","number"] (nA K C):=by
 refine F.ok Rk (fun vs H Q E h=>?_) (fun eM A outer s H vs Q E hr h=>?_)
 ·obtain⟨q,g,vc,z,rfl,_⟩:=h
  rfl
 ·obtain⟨q,g,vc,z,rfl,hG,k⟩:=h
  refine⟨_,aA (a9 (eW m1 R.cl hr (L2.pv 0) (ah (L2.pv 1) ax))),?_⟩
  obtain⟨dx,vP,vI,vN,vM,vS,G⟩:=id hG
  exact⟨_,rfl,q,dx,_,rfl,G.ins,rfl,_,rfl,q,g,vc,z,rfl,hG,k⟩
theorem uW(g:Grp){a:Nat}(ha:a<g.n):((Sp.sM g).map V.int)[a]? =some (V.int ((factsOf g).classOf a:Nat)):=by
 rw[ag,DL g ha]
 rfl
def Kn(K:W.Frag)(C:Addr):Sp:=fun vs H Q _=>∃(q:Addr)(g:Grp)(vc:V)(i:Nat),vs=[.ref q,.int (i:Nat)]∧Gr K C H q g vc∧Sp.jO g∧i<(factsOf g).many∧Q (.int (Sp.we g i:Nat)) H
theorem Rm:bf ["self","number"] ["self","number"] (aB js):=⟨rfl,rfl,rfl,by decide +kernel,rfl,by decide +kernel,by decide +kernel⟩
theorem tH{K:W.Frag}{H:Hp}{g:Grp}(hg:Sp.jO g){ms:List Addr}(h:eA K H ms (Sp.Bl g)){i:Nat}(hi:i<(factsOf g).many): ∃b,ms[i]? =some b∧cy K H b (((Sp.oP g i).map fun(x:Nat)=>(x:Int)).map V.int)∧(((Sp.oP g i).map fun(x:Nat)=>(x:Int)).map V.int)[0]? =some (V.int (((factsOf g).reps[i]'hi:Nat):Int)):=by
 obtain⟨b,hb⟩: ∃b,ms[i]? =some b:=⟨_,aj (by rw[h.len,Sp.rF hg];exact hi)⟩
 obtain⟨r,h1,h2⟩:=h.at_ hb
 rw[Sp.Er hg hi]at h1
 cases h1
 refine⟨b,hb,h2,?_⟩
 have:=Sp.F8 hg hi
 rw[ag,ag,←List.head?_eq_getElem?,this]
 rfl
theorem Rn{f C:Addr}{fd:FuncData}(F:f6 K "opposite" "Group.opposite" js f fd)(R:jK K C):cF P w K mg base fT 1 f fd ["self","number"] (Kn K C):=by
 refine F.ok Rm (fun vs H Q E h=>?_) (fun eM A outer s H vs Q E hr h=>?_)
 ·obtain⟨q,g,vc,z,rfl,_⟩:=h
  rfl
 ·obtain⟨q,g,vc,i,rfl,⟨dx,vP,vI,vN,vM,vS,G⟩,hg,hi,k⟩:=h
  refine⟨_,aA (a9 (cK bH (bz (L2.pv 0) rfl) (cK bH (bz (L2.pv 0) rfl) (cK bH (cK bH (bz (L2.pv 0) rfl) (L2.pv 1) (fun _ _=>rfl)) bG (fun _ _=>rfl)) (fun _ _=>rfl)) (fun _ _=>rfl))),?_⟩
  obtain⟨na,rfl,Nf⟩:=G.nm
  obtain⟨ia,rfl,Sr⟩:=G.iv
  obtain⟨ma,ms,rfl,OO,sT⟩:=G.mb
  obtain⟨b,hb,Fh,Iq⟩:=tH hg sT hi
  have kZ:=Sp.jk hg hi
  have xN:=Sp.jR hg kZ
  refine⟨_,rfl,q,C,dx,_,_,rfl,G.ins,R.cl,R.nN,ny _ _ _ _ _ _ _ _,_,rfl,q,C,dx,_,_,rfl,G.ins,R.cl,R.nI,lH _ _ _ _ _ _ _ _,_,rfl,q,C,dx,_,_,rfl,G.ins,R.cl,R.nM,nz _ _ _ _ _ _ _ _,_,rfl,ma,_,_,_,rfl,rfl,OO,at_of (j:=i) (v:=V.ref b) rfl (by rw[ag,hb];rfl),b,_,_,_,rfl,rfl,Fh,at_of (j:=0) rfl Iq,
   ia,_,_,_,rfl,rfl,Sr,at_of (j:=(factsOf g).reps[i]'hi) rfl (tG g kZ),na,_,_,_,rfl,rfl,Nf,at_of (j:=(factsOf g).inverse ((factsOf g).reps[i]'hi)) rfl (uW g xN),?_⟩
  have e:Sp.we g i=(factsOf g).classOf ((factsOf g).inverse ((factsOf g).reps[i]'hi)):=Sp.CF g hi
  rw[e]at k
  exact k
def DM(K:W.Frag)(C:Addr):Sp:=fun vs H Q _=>∃(q:Addr)(g:Grp)(vc:V)(x y:Nat),vs=[.ref q,.int (x:Nat),.int (y:Nat)]∧Gr K C H q g vc∧Sp.jO g∧x<g.n∧y<g.n∧Q (.int ((factsOf g).comm x y:Nat)) H
theorem Fi:bf ["self","first","second","back"] ["self","first","second"] (aB ip):=⟨rfl,rfl,rfl,by decide +kernel,rfl,by decide +kernel,by decide +kernel⟩
theorem qD{K:W.Frag}{H:Hp}{g:Grp}(hg:Sp.jO g){as:List Addr}(h:eA K H as (Sp.cI g)){i:Nat}(hi:i<g.n): ∃b,as[i]? =some b∧∃r:List Int,cy K H b (r.map V.int)∧r.length=g.n∧∀j,j<g.n→(r.map V.int)[j]? =some (V.int ((factsOf g).mul i j:Nat)):=by
 obtain⟨b,hb,i9⟩:=h.get (i:=i) (by rw[Sp.ek];exact hi)
 refine⟨b,hb,_,i9,Sp.dG hg hi,fun j hj=>?_⟩
 rw[sx (by rw[Sp.dG hg hi];exact hj),Sp.jl hg hi hj]
theorem Ng{g:Grp}(hg:Sp.jO g){x y:Nat}(hx:x<g.n)(hy:y<g.n):(factsOf g).mul ((factsOf g).mul x y) ((factsOf g).mul ((factsOf g).inverse x) ((factsOf g).inverse y))=(factsOf g).comm x y:=by
 have h1:=(Sp.gp hg).assoc ((Sp.gp hg).mul ⟨x,hx⟩ ⟨y,hy⟩) ((Sp.gp hg).inv ⟨x,hx⟩) ((Sp.gp hg).inv ⟨y,hy⟩)
 exact(ba Fin.val h1).symm
theorem Nh{f C:Addr}{fd:FuncData}(F:f6 K "commutator" "Group.commutator" ip f fd)(R:jK K C):cF P w K mg base fT 1 f fd ["self","first","second"] (DM K C):=by
 refine F.ok Fi (fun vs H Q E h=>?_) (fun eM A outer s H vs Q E hr h=>?_)
 ·obtain⟨q,g,vc,x,y,rfl,_⟩:=h
  rfl
 ·obtain⟨q,g,vc,x,y,rfl,⟨dx,vP,vI,vN,vM,vS,G⟩,hg,hx,hy,k⟩:=h
  refine⟨_,ak (bI (i:=3) Fi.nd rfl (Or.inl rfl) (cK bH (cK bH (bz (L2.pv 0) rfl) (cK bH (bz (L2.pv 0) rfl) (L2.pv 1) (fun _ _=>rfl)) (fun _ _=>rfl)) (cK bH (bz (L2.pv 0) rfl) (L2.pv 2) (fun _ _=>rfl)) (fun _ _=>rfl)))
   (aA (a9 (cK bH (cK bH (bz (L2.pv 0) rfl) (cK bH (cK bH (bz (L2.pv 0) rfl) (L2.pv 1) (fun _ _=>rfl)) (L2.pv 2) (fun _ _=>rfl)) (fun _ _=>rfl)) (L2.pv 3) (fun _ _=>rfl)))),?_⟩
  obtain⟨pa,as,rfl,HB,has⟩:=G.pr
  obtain⟨ia,rfl,Sr⟩:=G.iv
  have hix:=Sp.jR hg hx
  have hiy:=Sp.jR hg hy
  have YO:=Sp.jQ hg hx hy
  obtain⟨b1,DH,r1,tF,_,hv1⟩:=qD hg has hix
  obtain⟨b2,OB,r2,yO,_,Zj⟩:=qD hg has hx
  obtain⟨b3,BN,r3,Zk,_,hv3⟩:=qD hg has YO
  have hbk:=Sp.jQ hg hix hiy
  refine⟨_,rfl,q,C,dx,_,_,rfl,G.ins,R.cl,R.nP,gi _ _ _ _ _ _ _ _,_,rfl,q,C,dx,_,_,rfl,G.ins,R.cl,R.nI,lH _ _ _ _ _ _ _ _,_,rfl,ia,_,_,_,rfl,rfl,Sr,at_of (j:=x) rfl (tG g hx),pa,_,_,_,rfl,rfl,HB,at_of (j:=(factsOf g).inverse x) (v:=V.ref b1) rfl (by rw[ag,DH];rfl),
   _,rfl,q,C,dx,_,_,rfl,G.ins,R.cl,R.nI,lH _ _ _ _ _ _ _ _,_,rfl,ia,_,_,_,rfl,rfl,Sr,at_of (j:=y) rfl (tG g hy),b1,_,_,_,rfl,rfl,tF,at_of (j:=(factsOf g).inverse y) rfl (hv1 _ hiy),?_⟩
  refine⟨_,rfl,q,C,dx,_,_,rfl,G.ins,R.cl,R.nP,gi _ _ _ _ _ _ _ _,_,rfl,q,C,dx,_,_,rfl,G.ins,R.cl,R.nP,gi _ _ _ _ _ _ _ _,_,rfl,pa,_,_,_,rfl,rfl,HB,at_of (j:=x) (v:=V.ref b2) rfl (by rw[ag,OB];rfl),_,rfl,b2,_,_,_,rfl,rfl,yO,at_of (j:=y) rfl (Zj _ hy),
   pa,_,_,_,rfl,rfl,HB,at_of (j:=(factsOf g).mul x y) (v:=V.ref b3) rfl (by rw[ag,BN];rfl),_,rfl,b3,_,_,_,rfl,rfl,Zk,at_of (j:=(factsOf g).mul ((factsOf g).inverse x) ((factsOf g).inverse y)) rfl (hv3 _ hbk),?_⟩
  rw[Ng hg hx hy]
  exact k
end
end GT
end
section
namespace GT
open PySem PySem.Spec PyProof.Rows L2
open Rd01 (Grp factsOf)
section
variable{P:Program}{w:World}{K:W.Frag}{mg:Str→Option Value}{base:Heap}
def sg(g:Grp)(i a:Nat):List Int:=(List.range (factsOf g).many).map fun j=>((factsOf g).ways i j a:Int)
def mD(g:Grp)(i a t:Nat):List Int:=(List.range (factsOf g).many).map fun j=>(((((Sp.oP g i).take t).filter fun x=>(factsOf g).classOf ((factsOf g).mul ((factsOf g).inverse x) a)==j).length:Nat):Int)
theorem GY(g:Grp)(i a:Nat):mD g i a (Sp.oP g i).length=sg g i a:=by
 unfold mD sg
 apply bM
 intro j _
 rw[gL,Sp.oP,pZ]
 show _=(((List.range g.n).filter _).length:Int)
 congr 3
 funext x
 rw[Bool.and_comm]
theorem ju(g:Grp)(i a t:Nat):(mD g i a t).length=(factsOf g).many:=by simp[mD]
theorem DN(g:Grp)(i a:Nat):mD g i a 0=(List.replicate (factsOf g).many (0:Int)):=by
 unfold mD
 apply bO (by simp)
 intro j h1 h2
 simp
theorem GZ{g:Grp}{i a t x:Nat}(hx:(Sp.oP g i)[t]? =some x)(hc:(factsOf g).classOf ((factsOf g).mul ((factsOf g).inverse x) a)<(factsOf g).many):
  ((mD g i a t).map V.int).set ((factsOf g).classOf ((factsOf g).mul ((factsOf g).inverse x) a)) (V.int ((mD g i a t).getD ((factsOf g).classOf ((factsOf g).mul ((factsOf g).inverse x) a)) 0+1))=(mD g i a (t+1)).map V.int:=by
 have xH: ∀t j,j<(factsOf g).many→(mD g i a t)[j]? =some (((((Sp.oP g i).take t).filter fun x=>(factsOf g).classOf ((factsOf g).mul ((factsOf g).inverse x) a)==j).length:Nat):Int):=by
  intro t j hj
  rw[mD,ag,aX hj]
  rfl
 apply DK (by simp[ju]) (by rw[ae,ju];exact hc)
 ·rw[ag,xH _ _ hc,af,xH _ _ hc,gh hx,gZ,bC,tO (by simp)]
  show some (V.int _)=some (V.int _)
  congr 2
 ·intro j hj
  rw[ag,ag]
  by_cases Jz:j<(factsOf g).many
  ·rw[xH _ _ Jz,xH _ _ Jz,gh hx,gZ]
   have:((factsOf g).classOf ((factsOf g).mul ((factsOf g).inverse x) a)==j)=false:=cO.2 fun e=>hj e.symm
   rw[tP (by rw[this];simp),List.filter_nil,dS]
  ·rw[cN (by rw[ju];omega),cN (by rw[ju];omega)]
def Ap(K:W.Frag)(C:Addr):Sp:=fun vs H Q _=>∃(q:Addr)(g:Grp)(vc:V)(i a:Nat),vs=[.ref q,.int (i:Nat),.int (a:Nat)]∧Gr K C H q g vc∧Sp.jO g∧g.n≤64∧i<(factsOf g).many∧a<g.n∧tD H Q (sg g i a)
theorem uX:bf ["group","first","thing","ways","member","members"] ["group","first","thing"] (aB g8):=⟨rfl,rfl,rfl,by decide +kernel,rfl,by decide +kernel,by decide +kernel⟩
theorem Ni{f C:Addr}{fd:FuncData}(F:f6 K "ways_for_each" "ways_for_each" g8 f fd)(R:jK K C):cF P w K mg base fT 1 f fd ["group","first","thing"] (Ap K C):=by
 refine F.ok uX (fun vs H Q E h=>?_) (fun eM A outer s H vs Q E hr h=>?_)
 ·obtain⟨q,g,vc,i,a,rfl,_⟩:=h
  rfl
 ·obtain⟨q,g,vc,i,a,rfl,⟨dx,vP,vI,vN,vM,vS,G⟩,hg,xw,hi,ha,k⟩:=h
  refine⟨_,ak (gf rfl uX.nd (i:=3) rfl rfl (by rfl) (d8 (bz (L2.pv 0) rfl)) (own:=[("members",5)]) (cB (by show ij ["group","first","thing","ways","member","members"] (aB g8) _ _=true;decide +kernel))
    (fun s H C cl fp=>bE (i:=5) uX.nd rfl (Or.inl rfl)) (fun s H C cl fp=>cZ) (fun s H C cl fp=>bG))
   (ak (gc bx rfl (d8 (cK bH (bz (L2.pv 0) rfl) (L2.pv 1) (fun _ _=>rfl))) (bE (i:=4) uX.nd rfl (Or.inl rfl))
    (aA (Mj (L2.pv 3) (cK bH (bz (L2.pv 0) rfl) (cK bH (cK bH (bz (L2.pv 0) rfl) (cK bH (bz (L2.pv 0) rfl) (L2.pv 4) (fun _ _=>rfl)) (fun _ _=>rfl)) (L2.pv 2) (fun _ _=>rfl)) (fun _ _=>rfl)) Kk bG qr set_list)))
   (aA (a9 (L2.pv 3)))),?_⟩
  obtain⟨na,rfl,Nf⟩:=G.nm
  obtain⟨ia,rfl,Sr⟩:=G.iv
  obtain⟨ma,ms,rfl,OO,sT⟩:=G.mb
  obtain⟨pa,as,rfl,HB,has⟩:=G.pr
  have yw:ms.length=(factsOf g).many:=by rw[sT.len,Sp.rF hg]
  have Ga:=Sp.lz hg
  obtain⟨b,hb,Fh,_⟩:=tH hg sT hi
  refine⟨_,rfl,q,C,dx,_,_,rfl,G.ins,R.cl,R.nM,nz _ _ _ _ _ _ _ _,ma,rfl,⟨_,OO⟩,fun D hD=>eg (iG OO) (by rw[ae];omega) hD ((mD g i a 0).map V.int) (by simp[ju,yw]) ?_ ?_⟩
  ·intro j x H' Z hj e it z
   rw[ae,yw]at hj
   refine⟨rfl,z _ _ a0.refl ?_⟩
   rw[DN,ag,d5,aO hj]
   rfl
  ·intro H1 e1 Ff
   refine⟨_,rfl,q,C,dx,_,_,rfl,e1 _ _ G.ins,R.cl,R.nM,nz _ _ _ _ _ _ _ _,_,rfl,ma,_,_,_,rfl,rfl,e1.seq OO,at_of (j:=i) (v:=V.ref b) rfl (by rw[ag,hb];rfl),b,rfl,⟨_,e1.seq Fh⟩,
    jt (uQ (K:=K) (a:=b) (xs:=((Sp.oP g i).map fun(x:Nat)=>(x:Int)).map V.int)) (fun t σ H'=>∃v4:Option V,σ=[some (.ref q),some (.int (i:Nat)),some (.int (a:Nat)),some (.ref D),v4,none]∧a0 H H'∧H' D=some (.lst ((mD g i a t).map V.int)))
     ⟨none,rfl,e1,Ff⟩ (fun t σ H'⟨_,_,e,_⟩=>e.seq Fh) ?_ ?_⟩
   ·rintro t x σ H2 H3 ht ⟨v4,rfl,e2,o6⟩ e3 it
    obtain⟨m,hm,rfl⟩:=kP (l:=Sp.oP g i) it
    obtain⟨PD,_⟩:=Sp.Ma hg (aL hm)
    have U4:=Sp.jR hg PD
    have hmul:=Sp.jQ hg U4 ha
    have lO:=Sp.kE hg hmul
    obtain⟨b2,OB,r2,yO,_,Zj⟩:=qD hg has U4
    have sv:=e2.trans e3
    refine⟨_,rfl,_,rfl,q,C,dx,_,_,rfl,sv _ _ G.ins,R.cl,R.nN,ny _ _ _ _ _ _ _ _,_,rfl,q,C,dx,_,_,rfl,sv _ _ G.ins,R.cl,R.nP,gi _ _ _ _ _ _ _ _,_,rfl,q,C,dx,_,_,rfl,sv _ _ G.ins,R.cl,R.nI,lH _ _ _ _ _ _ _ _,_,rfl,ia,_,_,_,rfl,rfl,sv.seq Sr,at_of (j:=m) rfl (tG g PD),
     pa,_,_,_,rfl,rfl,sv.seq HB,at_of (j:=(factsOf g).inverse m) (v:=V.ref b2) rfl (by rw[ag,OB];rfl),_,rfl,b2,_,_,_,rfl,rfl,sv.seq yO,at_of (j:=a) rfl (Zj _ ha),na,_,_,_,rfl,rfl,sv.seq Nf,at_of (j:=(factsOf g).mul ((factsOf g).inverse m) a) rfl (uW g hmul),
     D,_,(factsOf g).classOf ((factsOf g).mul ((factsOf g).inverse m) a),_,rfl,rfl,cy.of (e3 _ _ o6),sx (by rw[ju];exact lO),_,_,rfl,rfl,D,_,_,(factsOf g).classOf ((factsOf g).mul ((factsOf g).inverse m) a),rfl,rfl,e3 _ _ o6,?_,some (.int (m:Nat)),rfl,a0.fO hD sv,?_⟩
    ·rw[ae,ju]
     exact uT lO
    ·rw[au,GZ hm lO]
   ·rintro σ H2 ⟨v4,rfl,e2,o6⟩
    rw[ae,ae,GY]at o6
    exact⟨_,rfl,k _ _ e2 hD o6⟩
def qd(g:Grp)(ts:List Nat):List Nat:=ts.flatMap fun x=>ts.map fun y=>(factsOf g).comm x y
theorem yP(g:Grp)(ts us:List Nat):(us.flatMap fun x=>ts.map fun y=>(factsOf g).comm x y).length=us.length*ts.length:=by
 induction us with
 |nil=>simp
 |cons u us ih=>rw[dj,bC,ih,ae,aC,qN];omega
def DO(K:W.Frag)(C:Addr):Sp:=fun vs H Q _=>∃(q:Addr)(g:Grp)(vc v:V)(ts:List Nat),vs=[.ref q,v]∧Gr K C H q g vc∧Sp.jO g∧IL K H v (bj ts)∧(∀t∈ts,t<g.n)∧ts.length≤64∧tD H Q (bj (qd g ts))
theorem sh:bf ["group","things","found","first","second"] ["group","things"] (aB jA):=⟨rfl,rfl,rfl,by decide +kernel,rfl,by decide +kernel,by decide +kernel⟩
theorem Nj{f C:Addr}{fd:FuncData}(F:f6 K "commutators" "commutators" jA f fd)(R:jK K C)(m1:jX P w K mg base 1 C "commutator" ["self","first","second"] (DM K C)):cF P w K mg base fT 2 f fd ["group","things"] (DO K C):=by
 refine F.ok sh (fun vs H Q E h=>?_) (fun eM A outer s H vs Q E hr h=>?_)
 ·obtain⟨q,g,vc,v,ts,rfl,_⟩:=h
  rfl
 ·obtain⟨q,g,vc,v,ts,rfl,hG,hg,⟨a,rfl,ha⟩,htb,LC,k⟩:=h
  refine⟨_,ak (bI (i:=2) sh.nd rfl (Or.inl rfl) (gd ax))
   (ak (gc bx rfl (d8 (L2.pv 1)) (bE (i:=3) sh.nd rfl (Or.inr rfl))
    (aA (gz (lA bF j4 j5 pM (L2.pv 2) (ah (je rfl sh.nd (d8 (L2.pv 1)) (own:=[("second",4)]) (cB (by show ij ["group","things","found","first","second"] (aB jA) _ _=true;decide +kernel))
     (fun s H C cl fp=>bE (i:=4) sh.nd rfl (Or.inl rfl)) (fun s H C cl fp=>cZ) (te:=yo C _ (DM K C) [] E0 _ _) (fun s H _ cl fp=>eW m1 R.cl hr (L2.pv 0) (ah (L2.pv 3) (ah (L2.pv 4) ax)))) ax)))))
   (aA (a9 (L2.pv 2)))),?_⟩
  refine⟨bB _,fun D hD=>?_⟩
  refine⟨_,rfl,a,rfl,⟨_,(bq hD).seq ha⟩,jt (uQ (K:=K) (a:=a) (xs:=(bj ts).map V.int)) (fun t σ H'=>∃v3:Option V,σ=[some (.ref q),some (.ref a),some (.ref D),v3,none]∧a0 H H'∧H' D=some (.lst ((bj ((ts.take t).flatMap fun x=>ts.map fun y=>(factsOf g).comm x y)).map V.int)))
   ⟨none,rfl,bq hD,au⟩ (fun t σ H'⟨_,_,e,_⟩=>e.seq ha) ?_ ?_⟩
  ·rintro t x σ H2 H3 ht ⟨v3,rfl,e2,o6⟩ e3 it
   obtain⟨m,hm,rfl⟩:=kP it
   have Ga:=htb m (aL hm)
   have sv:=e2.trans e3
   have xy:=e3 _ _ o6
   have adJ:t<ts.length:=(aJ.mp hm).1
   refine⟨_,rfl,.inl ⟨rfl,_,cy.of xy⟩,_,rfl,a,rfl,⟨_,sv.seq ha⟩,fun M hM=>eg (iG (sv.seq ha)) (by rw[ae,bj,ae];omega) hM ((bj (ts.map fun y=>(factsOf g).comm m y)).map V.int) (by simp[bj]) ?_ ?_⟩
   ·intro i y H' Z hi e YI z
    obtain⟨m2,PF,rfl⟩:=kP YI
    have Zl:=htb m2 (aL PF)
    have hG':=hG.same (sv.trans e)
    obtain⟨dx,vP,vI,vN,vM,vS,G⟩:=id hG'
    refine⟨rfl,_,rfl,q,dx,_,rfl,G.ins,rfl,_,rfl,_,rfl,q,g,vc,m,m2,rfl,hG',hg,Ga,Zl,z _ _ a0.refl ?_⟩
    rw[bj,aU,aU,ag,PF]
    rfl
   ·intro H4 e4 U5
    refine⟨D,M,_,_,rfl,rfl,e4 _ _ xy,U5,?_,some (.int (m:Nat)),rfl,a0.fO hD (sv.trans e4),?_⟩
    ·simp only[ae,bj,yP,cT]
     have:min t ts.length*ts.length≤64*64:=ja (by omega) (by omega)
     have:=bD
     omega
    ·rw[au,gh hm,List.flatMap_append,bj,bj,bj,bo,bo,dj,List.flatMap_nil,dS]
  ·rintro σ H2 ⟨v3,rfl,e2,o6⟩
   have oj:(bj ts).length=ts.length:=ae _
   rw[ae,oj,gL]at o6
   exact⟨_,rfl,k _ _ e2 hD o6⟩
theorem ui(l:List Nat)(a:Nat):(bj l).count ((a:Nat):Int)=l.count a:=by
 induction l with
 |nil=>rfl
 |cons x l ih=>
  rw[bj,a6,List.count_cons,List.count_cons,←bj,ih]
  congr 1
  by_cases e:x=a
  ·subst e;simp
  ·rw[aI (by simpa using fun e2=>e (by omega)),aI (by simpa using e)]
theorem mE(l:List Nat)(F:Nat→Nat)(a:Nat):(l.map F).count a=(l.filter fun x=>F x==a).length:=by
 rw[List.count_eq_countP,List.countP_map,ou]
 rfl
theorem BY(g:Grp)(a:Nat):(qd g (List.range g.n)).count a=(factsOf g).pairs a:=by
 have h: ∀us:List Nat,(us.flatMap fun x=>(List.range g.n).map fun y=>(factsOf g).comm x y).count a=(us.map fun x=>((List.range g.n).filter fun y=>(factsOf g).comm x y==a).length).sum:=by
  intro us
  induction us with
  |nil=>rfl
  |cons u us ih=>
   rw[dj,List.count_append,ih,a6,mJ,mE]
 exact h (List.range g.n)
def Fj(K:W.Frag)(C:Addr):Sp:=fun vs H Q _=>∃(q:Addr)(g:Grp)(vc:V)(a:Nat),vs=[.ref q,.int (a:Nat)]∧Gr K C H q g vc∧Sp.jO g∧g.n≤64∧∀H',a0 H H'→Q (.int ((factsOf g).pairs a:Nat)) H'
theorem Ko:bf ["group","thing"] ["group","thing"] (aB lR):=⟨rfl,rfl,rfl,by decide +kernel,rfl,by decide +kernel,by decide +kernel⟩
theorem Ha{f C:Addr}{fd:FuncData}(F:f6 K "count_pairs" "count_pairs" lR f fd)(T:Txt mg)(R:jK K C)(c1:iJ P w K mg base 2 "commutators" ["group","things"] (DO K C)):cF P w K mg base fT 3 f fd ["group","thing"] (Fj K C):=by
 refine F.ok Ko (fun vs H Q E h=>?_) (fun eM A outer s H vs Q E hr h=>?_)
 ·obtain⟨q,g,vc,a,rfl,_⟩:=h
  rfl
 ·obtain⟨q,g,vc,a,rfl,hG,hg,xw,k⟩:=h
  refine⟨_,aA (a9 (lA bF PySem.F.slot_list_count PySem.F.type_list_count yD (bQ c1 hr rfl (ah (L2.pv 0) (ah (fR (lF rfl) (by rfl) T.list boot_list (ah (fR pP (by rfl) T.range HC (ah (bz (L2.pv 0) rfl) ax)) ax)) ax))) (ah (L2.pv 1) ax))),?_⟩
  obtain⟨dx,vP,vI,vN,vM,vS,G⟩:=id hG
  refine⟨_,rfl,_,rfl,q,C,dx,_,_,rfl,G.ins,R.cl,R.nO,jL _ _ _ _ _ _ _ _,_,rfl,fun p hp=>?_⟩
  refine⟨p,0,_,rfl,au,kr 0,p6 _,by omega,fun l hl=>?_⟩
  rw[DD]
  have e2:a0 H (upd (upd H p (.AH 0 (g.n:Nat))) l (.lst ((kM g.n).map V.int))):=(bq hp).trans (bq hl)
  refine⟨q,g,vc,_,List.range g.n,rfl,hG.same e2,hg,⟨l,rfl,cy.of au⟩,by simp,by simpa using xw,fun b H3 e3 hb BN=>?_⟩
  refine⟨.inl ⟨rfl,_,cy.of BN⟩,_,rfl,b,_,_,rfl,rfl,cy.of BN,?_⟩
  rw[ui,BY]
  exact k _ (e2.trans e3)
theorem BZ(g:Grp)(a m:Nat):(Sp.mT g m).count ((a:Nat):Int)=(factsOf g).roots a m:=by
 have:Sp.mT g m=bj ((List.range g.n).map fun x=>(factsOf g).pow x m):=by
  unfold Sp.mT bj
  rw[aU]
  rfl
 rw[this,ui,mE]
 rfl
def Fl(K:W.Frag)(C:Addr):Sp:=fun vs H Q _=>∃(q:Addr)(g:Grp)(vc:V)(a m:Nat),vs=[.ref q,.int (a:Nat),.int (m:Nat)]∧Gr K C H q g vc∧Sp.jO g∧g.n≤64∧m≤10000∧∀H',a0 H H'→Q (.int ((factsOf g).roots a m:Nat)) H'
theorem kT:bf ["group","thing","power","raised","step","base","reached"] ["group","thing","power"] (aB gX):=⟨rfl,rfl,rfl,by decide +kernel,rfl,by decide +kernel,by decide +kernel⟩
theorem Hb{f C:Addr}{fd:FuncData}(F:f6 K "count_roots" "count_roots" gX f fd)(T:Txt mg)(R:jK K C):cF P w K mg base fT 1 f fd ["group","thing","power"] (Fl K C):=by
 refine F.ok kT (fun vs H Q E h=>?_) (fun eM A outer s H vs Q E hr h=>?_)
 ·obtain⟨q,g,vc,a,m,rfl,_⟩:=h
  rfl
 ·obtain⟨q,g,vc,a,m,rfl,hG,hg,xw,hm,k⟩:=h
  refine⟨_,ak (gf rfl kT.nd (i:=3) rfl rfl (by rfl) (fQ rfl T.range (ah (bz (L2.pv 0) rfl) ax)) (own:=[("base",5)]) (cB (by show ij ["group","thing","power","raised","step","base","reached"] (aB gX) _ _=true;decide +kernel))
    (fun s H C cl fp=>bE (i:=5) kT.nd rfl (Or.inl rfl)) (fun s H C cl fp=>cZ) (fun s H C cl fp=>bG))
   (ak (gc bx rfl (fQ rfl T.range (ah (L2.pv 2) ax)) (bE (i:=4) kT.nd rfl (Or.inl rfl))
    (aA (gf rfl kT.nd (i:=3) rfl rfl (by rfl) (rS rfl T.enum (ah (L2.pv 3) ax)) (own:=[("base",5),("reached",6)]) (cB (by show ij ["group","thing","power","raised","step","base","reached"] (aB gX) _ _=true;decide +kernel))
     (g:=xS K 2 (iS (gM 5) (iS (gM 6) xR))) (fun s H C cl fp=>lQ rfl (dz (bE (i:=5) kT.nd rfl (Or.inl rfl) (.inr rfl)) (dz (bE (i:=6) kT.nd rfl (Or.inl rfl) (.inr rfl)) jy))) (fun s H C cl fp=>cZ)
     (te:=Ey (mj K) (Ey (mj K) (Mq K _ "products") _) _) (fun s H C cl fp=>cK (show EF _ (mj K)from bH) (cK (show EF _ (mj K)from bH) (bz (L2.pv 0) rfl) (L2.pv 6) (fun _ _=>rfl)) (L2.pv 5) (fun _ _=>rfl)))))
   (aA (a9 (lA bF PySem.F.slot_list_count PySem.F.type_list_count yD (L2.pv 3) (ah (L2.pv 1) ax))))),?_⟩
  obtain⟨dx,vP,vI,vN,vM,vS,G⟩:=id hG
  obtain⟨pa,as,rfl,HB,has⟩:=G.pr
  have rZ:((g.n:Nat):Int).toNat=g.n:=aY g.n
  have UZ:((m:Nat):Int).toNat=m:=aY m
  refine⟨_,rfl,q,C,dx,_,_,rfl,G.ins,R.cl,R.nO,jL _ _ _ _ _ _ _ _,_,rfl,by omega,by omega,fun D hD=>eg pk (by rw[rZ];omega) hD ((Sp.mT g 0).map V.int) (by rw[ae,Sp.kz,rZ]) ?_ ?_⟩
  ·rintro i x H' Z hi e rfl z
   rw[rZ]at hi
   refine⟨rfl,z _ _ a0.refl ?_⟩
   rw[Sp.mT,aU,ag,aX hi]
   rfl
  ·intro H1 e1 Ff
   refine⟨_,rfl,_,rfl,by omega,by omega,?_⟩
   rw[UZ]
   refine jt wM (fun t σ H'=>∃(l:Addr)(v4:Option V),σ=[some (.ref q),some (.int (a:Nat)),some (.int (m:Nat)),some (.ref l),v4,none,none]∧a0 H H'∧H' l=some (.lst ((Sp.mT g t).map V.int)))
    ⟨D,none,rfl,e1,Ff⟩ (fun _ _ _ _=>trivial) ?_ ?_
   ·rintro t x σ H2 H3 ht ⟨l,v4,rfl,e2,hl⟩ e3 rfl
    have sv:=e2.trans e3
    have OP:=e3 _ _ hl
    refine⟨_,rfl,l,_,rfl,cy.of OP,fun M hM=>eg (rX (cy.of (K:=K) OP)) (by rw[ae,Sp.kz];omega) hM ((Sp.mT g (t+1)).map V.int) (by simp[Sp.kz]) ?_ ?_⟩
    ·rintro i y H' Z hi e ⟨Tt,x',rfl,xZ,hT⟩ z
     rw[ae,Sp.kz]at hi
     have YT:x'=V.int ((factsOf g).pow i t:Nat):=by
      rw[Sp.mT,aU,ag,aX hi]at xZ
      exact(a7 xZ).symm
     subst YT
     have n9:=Sp.CI hg hi t
     obtain⟨b,hb,r,iF,_,hv⟩:=qD hg has n9
     have e4:=sv.trans e
     refine⟨Tt,_,rfl,.inl (.inl hT),rfl,_,_,rfl,_,_,rfl,rfl,rfl,_,rfl,q,C,dx,_,_,rfl,e4 _ _ G.ins,R.cl,R.nP,gi _ _ _ _ _ _ _ _,_,rfl,pa,_,_,_,rfl,rfl,e4.seq HB,at_of (j:=(factsOf g).pow i t) (v:=V.ref b) rfl (by rw[ag,hb];rfl),_,rfl,b,_,_,_,rfl,rfl,e4.seq iF,at_of (j:=i) rfl (hv _ hi),z _ _ a0.refl ?_⟩
     rw[Sp.mT,aU,ag,aX hi]
     rfl
    ·intro H4 e4 U5
     exact⟨M,some (.int (0+(t:Nat))),rfl,sv.trans e4,U5⟩
   ·rintro σ H2 ⟨l,v4,rfl,e2,hl⟩
    refine⟨_,rfl,.inl ⟨rfl,_,cy.of hl⟩,_,rfl,l,_,_,rfl,rfl,cy.of hl,?_⟩
    rw[BZ]
    exact k _ e2
end
end GT
end
section
namespace GT
open PySem PySem.W PyProof.Rows
section
variable(lt:Nat→Nat→Bool)(n:Nat)
structure LO:Prop where
 tr: ∀i j k,i<n→j<n→k<n→lt i j=true→lt j k=true→lt i k=true
 to: ∀i j,i<n→j<n→i≠j→lt i j=false→lt j i=true
 as: ∀i j,i<n→j<n→lt i j=true→lt j i=false
def qE(i j:Nat)(C:Bool→Shared→Prop)(s:Shared):Prop:=i<n∧j<n∧C (lt i j) s
end
def g0(p:Array Nat)(k:Nat):Nat:=p.getD k 0
theorem B0(p:Array Nat)(k:Nat):g0 p k=(p[k]?).getD 0:=by
 unfold g0
 simp[Array.getD_eq_getD_getElem?]
structure pS(n:Nat)(p:Array Nat):Prop where
 perm:p.toList.Perm (List.range n)
section
variable{lt:Nat→Nat→Bool}{n:Nat}{p:Array Nat}{s:Shared}
theorem pS.size(h:pS n p):p.size=n:=by
 have:=h.perm.length_eq
 rwa [bS,bh]at this
theorem pS.bd(h:pS n p){k:Nat}(hk:k<n):g0 p k<n:=by
 have JB:k<p.size:=by rw[h.size];exact hk
 have e:g0 p k=p[k]:=by simp[g0,Array.getD,JB]
 rw[e]
 have:p[k]∈List.range n:=h.perm.mem_iff.1 (by simp)
 exact aD.1 this
theorem pS.inj(h:pS n p){i j:Nat}(hi:i<n)(hj:j<n)(e:g0 p i=g0 p j):i=j:=by
 have pU:i<p.toList.length:=by rw[bS,h.size];exact hi
 have L1:j<p.toList.length:=by rw[bS,h.size];exact hj
 have hn:p.toList.Nodup:=h.perm.nodup_iff.2 da
 have e1:p.toList[i]=p.toList[j]:=by
  have a1:g0 p i=p.toList[i]:=by simp[g0,Array.getD,show i<p.size by rw[h.size];exact hi]
  have a2:g0 p j=p.toList[j]:=by simp[g0,Array.getD,show j<p.size by rw[h.size];exact hj]
  rw[←a1,←a2,e]
 exact(mG hn).1 e1
theorem pS.range:pS n (List.toArray (List.range n)):=⟨gH _⟩
theorem pS.of(h:pS n p){q:Array Nat}(e:q.Perm p):pS n q:=⟨(Array.perm_iff_toList_perm.1 e).trans h.perm⟩
def Up(lt:Nat→Nat→Bool)(p:Array Nat)(m:Nat):Prop:=∀i j,i<j→j<m→lt (g0 p i) (g0 p j)=true
def Dn(lt:Nat→Nat→Bool)(p:Array Nat)(m:Nat):Prop:=∀i j,i<j→j<m→lt (g0 p j) (g0 p i)=true
theorem Up.one:Up lt p 1:=fun i j h1 h2=>by omega
theorem Up.succ(L:LO lt n)(h:pS n p){m:Nat}(h1:1≤m)(hm:m<n)(u:Up lt p m)(e:lt (g0 p (m-1)) (g0 p m)=true):Up lt p (m+1):=by
 intro i j oh hj
 by_cases e1:j<m
 ·exact u i j oh e1
 ·obtain rfl:j=m:=by omega
  by_cases e2:i=j-1
  ·rw[e2];exact e
  ·exact L.tr _ _ _ (h.bd (by omega)) (h.bd (by omega)) (h.bd hm) (u i (j-1) (by omega) (by omega)) e
theorem Dn.succ(L:LO lt n)(h:pS n p){m:Nat}(h1:1≤m)(hm:m<n)(u:Dn lt p m)(e:lt (g0 p m) (g0 p (m-1))=true):Dn lt p (m+1):=by
 intro i j oh hj
 by_cases e1:j<m
 ·exact u i j oh e1
 ·obtain rfl:j=m:=by omega
  by_cases e2:i=j-1
  ·rw[e2];exact e
  ·exact L.tr _ _ _ (h.bd hm) (h.bd (by omega)) (h.bd (by omega)) e (u i (j-1) (by omega) (by omega))
theorem DP(L:LO lt n)(h:pS n p){Q:Nat→Shared→Prop}: ∀(f m:Nat),1≤m→m+f≤n→Up lt p m→(∀m',m≤m'→m'≤m+f→Up lt p m'→(m'<m+f→lt (g0 p m') (g0 p (m'-1))=true)→Q m' s)→(kas_asc p f m).kasWp (qE lt n) Q s
 |0,m,h1,hm,u,k=>k m (aq _) (aq _) u (fun z=>absurd z (by omega))
 |f+1,m,h1,hm,u,k=>by
  show qE lt n (g0 p m) (g0 p (m-1)) _ s
  refine⟨h.bd (by omega),h.bd (by omega),?_⟩
  cases e:lt (g0 p m) (g0 p (m-1))with
  |true=>exact k m (aq _) (by omega) u fun _=>e
  |false=>
   have e2:=L.to _ _ (h.bd (show m<n by omega)) (h.bd (show m-1<n by omega)) (fun z=>by have:=h.inj (by omega) (by omega) z;omega) e
   exact DP L h f (m+1) (by omega) (by omega) (u.succ L h h1 (by omega) e2) fun m' a1 a2 a3 a4=>k m' (by omega) (by omega) a3 fun z=>a4 (by omega)
theorem Fm(L:LO lt n)(h:pS n p){Q:Array Nat×Nat×Nat→Shared→Prop}: ∀(f m:Nat),1≤m→m+f≤n→Dn lt p m→(∀m',m≤m'→m'≤m+f→Dn lt p m'→Q (p,m',0) s)→(kas_desc f p m 0).kasWp (qE lt n) Q s
 |0,m,h1,hm,u,k=>k m (aq _) (aq _) u
 |f+1,m,h1,hm,u,k=>by
  show qE lt n (g0 p m) (g0 p (m-1)) _ s
  refine⟨h.bd (by omega),h.bd (by omega),?_⟩
  cases e:lt (g0 p m) (g0 p (m-1))with
  |true=>exact Fm L h f (m+1) (by omega) (by omega) (u.succ L h h1 (by omega) e) fun m' a1 a2 a3=>k m' (by omega) (by omega) a3
  |false=>
   have e2:=L.to _ _ (h.bd (show m<n by omega)) (h.bd (show m-1<n by omega)) (fun z=>by have:=h.inj (by omega) (by omega) z;omega) e
   show qE lt n (g0 p (m-1)) (g0 p m) _ s
   refine⟨h.bd (by omega),h.bd (by omega),?_⟩
   rw[e2]
   exact k m (aq _) (by omega) u
theorem Kp(h:pS n p){m:Nat}(hm:m≤n){k:Nat}(hk:k<m):g0 (kas_rev p 0 m) k=g0 p (m-1-k):=by
 rw[B0,B0]
 unfold kas_rev
 rw[getElem?_mirror_all (by rw[h.size];exact hm),aO (by omega)]
 congr 2
 omega
theorem pS.rev(h:pS n p)(m:Nat):pS n (kas_rev p 0 m):=h.of (mirror_perm _ _ _ _)
theorem Kq(L:LO lt n)(h:pS n p){m:Nat}{Q:Nat×Array Nat→Shared→Prop}(h1:1≤m)(hm:m≤n)(u:Dn lt p m)(k: ∀m' q,1≤m'→m'≤n→pS n q→Up lt q m'→Q (m',q) s):(kas_tail3 m n p).kasWp (qE lt n) Q s:=by
 unfold kas_tail3
 rw[KasT.kasWp_bind]
 refine DP L (h.rev m) _ _ h1 (by omega) (fun i j oh hj=>?_) fun m' a1 a2 a3 _=>k m' _ (by omega) (by omega) (h.rev m) a3
 rw[Kp h hm (by omega),Kp h hm hj]
 exact u _ _ (by omega) (by omega)
theorem Kr(L:LO lt n)(h:pS n p){Q:Nat×Array Nat→Shared→Prop}(h1:1≤n)(k: ∀m' q,1≤m'→m'≤n→pS n q→Up lt q m'→Q (m',q) s):(kas_count n p).kasWp (qE lt n) Q s:=by
 unfold kas_count
 rw[KasT.kasWp_bind]
 refine DP L h _ _ (aq _) (by omega) Up.one fun m a1 a2 a3 a4=>?_
 by_cases e1:(m==n)=true
 ·rw[aO e1]
  exact k m p a1 (by omega) h a3
 ·rw[aI e1]
  have df:m≠n:=fun z=>e1 (by rw[z];exact beq_self_eq_true _)
  by_cases e2:m>1
  ·rw[aO e2]
   show qE lt n (g0 p 0) (g0 p (m-1)) _ s
   refine⟨h.bd (by omega),h.bd (by omega),?_⟩
   rw[a3 0 (m-1) (by omega) (by omega)]
   exact k m p a1 (by omega) h a3
  ·rw[aI e2]
   obtain rfl:m=1:=by omega
   unfold kas_descPart
   rw[KasT.kasWp_bind]
   refine Fm L h _ _ (by omega) (by omega) (fun i j oh hj=>?_) fun m' b1 b2 b3=>?_
   ·obtain rfl:j=1:=by omega
    obtain rfl:i=0:=by omega
    exact a4 (by omega)
   ·exact Kq L h (show 1≤m' by omega) (show m'≤n by omega) b3 k
theorem w6(L:LO lt n)(h:pS n p){k:Nat}(hk:k<n)(u:Up lt p k){Q:Nat→Shared→Prop}: ∀(f l r:Nat),l≤r→r≤k→r≤l+f→(∀i,i<l→lt (g0 p i) (g0 p k)=true)→(∀i,r≤i→i<k→lt (g0 p k) (g0 p i)=true)→
  (∀l',l'≤k→(∀i,i<l'→lt (g0 p i) (g0 p k)=true)→(∀i,l'≤i→i<k→lt (g0 p k) (g0 p i)=true)→Q l' s)→(kas_place p k f l r).kasWp (qE lt n) Q s
 |0,l,r,h1,h2,h3,a,b,z=>z l (by omega) a fun i hi=>b i (by omega)
 |f+1,l,r,h1,h2,h3,a,b,z=>by
  unfold kas_place
  by_cases e:l≥r
  ·rw[aO e]
   exact z l (by omega) a fun i hi=>b i (by omega)
  ·rw[aI e]
   have PD:l≤(l+r) / 2:=by omega
   have PF:(l+r) / 2<r:=by omega
   generalize (l+r) / 2=m at PD PF
   show qE lt n (g0 p k) (g0 p m) _ s
   refine⟨h.bd hk,h.bd (by omega),?_⟩
   cases e1:lt (g0 p k) (g0 p m)with
   |true=>
    refine w6 L h hk u f l m (by omega) (by omega) (by omega) a (fun i hi WY=>?_) z
    by_cases e2:i=m
    ·rw[e2];exact e1
    ·exact L.tr _ _ _ (h.bd hk) (h.bd (by omega)) (h.bd (by omega)) e1 (u m i (by omega) WY)
   |false=>
    have e3:=L.to _ _ (h.bd hk) (h.bd (show m<n by omega)) (fun y=>by have:=h.inj hk (by omega) y;omega) e1
    refine w6 L h hk u f (m+1) r (by omega) (by omega) (by omega) (fun i hi=>?_) b z
    by_cases e2:i=m
    ·rw[e2];exact e3
    ·exact L.tr _ _ _ (h.bd (by omega)) (h.bd (by omega)) (h.bd hk) (u i m (by omega) (by omega)) e3
theorem yQ(h:pS n p){k l:Nat}(hk:k<n)(hl:l≤k)(i:Nat):g0 (bubble p k (k-l)) i=if i=l then g0 p k else if l<i∧i≤k then g0 p (i-1)else g0 p i:=by
 rw[B0,getElem?_bubble (by rw[h.size];exact hk) _ (by omega),show k-(k-l)=l by omega]
 split
 ·rw[B0]
 ·split<;>rw[B0]
theorem Ks(L:LO lt n){Q:Array Nat→Shared→Prop}(z: ∀q,pS n q→Up lt q n→Q q s): ∀(f:Nat)(p:Array Nat)(k:Nat),pS n p→k+f=n→Up lt p k→(kas_bin f p k).kasWp (qE lt n) Q s
 |0,p,k,h,hk,u=>z p h (by rw[←hk];exact u)
 |f+1,p,k,h,hk,u=>by
  unfold kas_bin
  rw[KasT.kasWp_bind]
  have R4:k<n:=by omega
  refine w6 L h R4 u _ _ _ (bB _) (aq _) (by omega) (fun i hi=>absurd hi (by omega)) (fun i hi LD=>absurd hi (by omega)) fun l hl a b=>?_
  refine Ks L z f _ (k+1) (h.of (bubble_perm _ _ _)) (by omega) fun i j oh hj=>?_
  rw[yQ h R4 hl,yQ h R4 hl]
  by_cases e1:i=l
  ·rw[aO e1,aI (by omega),aO (by omega)]
   exact b _ (by omega) (by omega)
  ·rw[aI e1]
   by_cases e2:l<i∧i≤k
   ·rw[aO e2,aI (by omega),aO (by omega)]
    exact u _ _ (by omega) (by omega)
   ·rw[aI e2]
    by_cases e3:j=l
    ·rw[aO e3]
     exact a _ (by omega)
    ·rw[aI e3]
     by_cases e4:l<j∧j≤k
     ·rw[aO e4]
      exact u _ _ (by omega) (by omega)
     ·rw[aI e4]
      exact u _ _ oh (by omega)
theorem Nk(L:LO lt n)(h1:1≤n){Q:Array Nat→Shared→Prop}(z: ∀q,pS n q→Up lt q n→Q q s):(kas_sort n).kasWp (qE lt n) Q s:=by
 unfold kas_sort
 rw[KasT.kasWp_bind]
 refine Kr L pS.range h1 fun m q b1 b2 b3 b4=>?_
 by_cases e:m<n
 ·show KasT.kasWp (qE lt n) (if m<n then kas_bin (n-max m 1) q (max m 1)else .ret q) Q s
  rw[aO e,show max m 1=m by omega]
  exact Ks L z _ q m b3 (by omega) b4
 ·show KasT.kasWp (qE lt n) (if m<n then kas_bin (n-max m 1) q (max m 1)else .ret q) Q s
  rw[aI e]
  exact z q b3 (by rw[show n=m by omega];exact b4)
theorem Kt{α:Type}{cmp:Nat→Nat→(Bool→Shared→Prop)→Shared→Prop}{Q:α→Shared→Prop}(hc: ∀i j C,i<n→j<n→C (lt i j) s→cmp i j C s): ∀t:KasT α,t.kasWp (qE lt n) Q s→t.kasWp cmp Q s
 |.ret _,h=>h
 |.ask i j k,h=>hc i j _ h.1 h.2.1 (Kt hc (k (lt i j)) h.2.2)
end
end GT
end
section
namespace GT
open PySem PySem.Spec PyProof.Rows L2
section
open PySem.AutoSeq1 (wpAny_loadPart')
theorem Nl(l b:Addr)(o1 o2:Obj)(xs ys:Array Value)(n1 n2:Nat)(d1:o1.data=.seq xs n1)(d2:o2.data=.seq ys n2): ∀(k i:Nat)(ns ms:List Int),xs.size-i=k→i≤xs.size→i≤ys.size→IntsAre (xs.toList.drop i) ns→IntsAre (ys.toList.drop i) ms→
  Meets (Builtin.«list.__eq__.loop» ⟨[.ref l,.ref b,rawInt i,rawInt 0],[]⟩) (fun _ R s=>s.heap.get? l=some o1∧s.heap.get? b=some o2∧R (.ok (.ret (.bool (HT.lexLt ns ms)))) s):=by
 obtain⟨c1,dd1,dt1,sl1⟩:=o1
 obtain⟨c2,dd2,dt2,sl2⟩:=o2
 dsimp only at d1 d2
 subst d1 d2
 intro k
 induction k with
 |zero=>
  intro i ns ms hk h1 h2 e1 e2 prog w A R s h
  obtain⟨hp,g,d,tk,os⟩:=s
  obtain⟨hl,hb,h⟩:=h
  obtain rfl:i=xs.size:=by omega
  have z1:xs[((xs.size:Nat):Int).toNat]? =none:=by simp
  have en:ns=[]:=by
   rw[k9 (by simp)]at e1
   cases e1
   rfl
  subst en
  have hv:HT.lexLt [] ms=decide (xs.size<ys.size):=by
   have oE:=e2.length
   rw[eF,bS]at oE
   cases ms with
   |nil=>
    rw[HT.xT]
    rw[oq]at oE
    exact(decide_eq_false (by omega)).symm
   |cons m ms=>
    rw[HT.wz]
    rw[aC]at oE
    exact(decide_eq_true (by omega)).symm
  rw[hv]at h
  wp_walk using wpAny_loadPart' hl,wpAny_loadPart' hb
  rw[z1]
  wp_walk using wpAny_loadPart' hl,wpAny_loadPart' hb
  exact h
 |succ k ih=>
  intro i ns ms hk h1 h2 e1 e2 prog w A R s h
  obtain⟨hp,g,d,tk,os⟩:=s
  obtain⟨hl,hb,h⟩:=h
  have hx:i<xs.size:=by omega
  have z1:xs[((i:Nat):Int).toNat]? =some xs[i]:=by simp[hx]
  have ex:xs.toList.drop i=xs[i]::xs.toList.drop (i+1):=by
   rw[List.drop_eq_getElem_cons (by simpa using hx)]
   simp
  rw[ex]at e1
  by_cases hy:i<ys.size
  ·have z2:ys[((i:Nat):Int).toNat]? =some ys[i]:=by simp[hy]
   have ey:ys.toList.drop i=ys[i]::ys.toList.drop (i+1):=by
    rw[List.drop_eq_getElem_cons (by simpa using hy)]
    simp
   rw[ey]at e2
   generalize exi:xs[i]=vx at z1 e1
   generalize eyi:ys[i]=vy at z2 e2
   cases e1 with
   |cons p t f1=>
   cases e2 with
   |cons q u f2=>
   rw[HT.kG]at h
   wp_walk using wpAny_loadPart' hl,wpAny_loadPart' hb
   rw[z1,z2]
   obtain⟨e,he,U6⟩:=HT.Jn A.in1 ⟨hp,g,d,tk,os⟩ p t q u
   refine wpAny_bind (he prog w _ _ ?_)
   cases e with
   |true=>
    rw[aO (U6.mp rfl)]at h
    wp_walk
    have hc:((i:Int)+1)=((i+1:Nat):Int):=by push_cast;rfl
    rw[hc]
    refine⟨pT gQ _,gn PySem.MeetsSeq3.entry_eq_loop ?_⟩
    rw[ff gQ _]
    exact ih (i+1) _ _ (by omega) (by omega) (by omega) f1 f2 prog w A R _ ⟨hl,hb,h⟩
   |false=>
    rw[aI (fun q=>absurd (U6.mpr q) bb)]at h
    have hri:=HT.Jo A.in1 ⟨hp,g,d,tk,os⟩ p t q u prog w
    wp_walk using wpAny_loadPart' hl,wpAny_loadPart' hb
    rw[z1,z2]
    wp_walk using hri
    exact h
  ·have z2:ys[((i:Nat):Int).toNat]? =none:=by simp;omega
   rw[k9 (by simp;omega)]at e2
   cases e2
   generalize exi:xs[i]=vx at z1 e1
   cases e1 with
   |cons p t f1=>
   rw[HT.wA]at h
   wp_walk using wpAny_loadPart' hl,wpAny_loadPart' hb
   rw[z1,z2]
   wp_walk using wpAny_loadPart' hl,wpAny_loadPart' hb
   have:decide (xs.size<ys.size)=false:=decide_eq_false (by omega)
   rw[←this]at h
   exact h
theorem Nm(l b:Addr)(o1 o2:Obj)(xs ys:Array Value)(n1 n2:Nat)(d1:o1.data=.seq xs n1)(d2:o2.data=.seq ys n2)(c2:o2.cls=.type "list")(ns ms:List Int)(e1:IntsAre xs.toList ns)(e2:IntsAre ys.toList ms):
  Meets (Builtin.«list.__lt__» ⟨[.ref l,.ref b],[]⟩) (fun _ R s=>s.heap.get? l=some o1∧s.heap.get? b=some o2∧R (.ok (.ret (.bool (HT.lexLt ns ms)))) s):=by
 intro prog w A R s h
 have k:=Nl l b o1 o2 xs ys n1 n2 d1 d2 _ 0 ns ms rfl (bB _) (bB _) e1 e2 prog w A R s h
 obtain⟨hp,g,d,tk,os⟩:=s
 obtain⟨hl,hb,h⟩:=h
 obtain⟨cc,dd2,dt2,sl2⟩:=o2
 dsimp only at c2 d2
 subst c2 d2
 have f3:=PySem.AutoSeq1.sub_list_list
 wp_walk using wpAny_loadPart' hl,wpAny_loadPart' hb
 refine⟨pT gQ _,gn PySem.MeetsSeq3.entry_eq_loop ?_⟩
 rw[ff gQ _]
 exact k
end
end GT
end
section
namespace GT
open PySem PySem.Spec PyProof.Rows L2
section
variable{prog:Program}{w:World}{A:Around}{E:Value→Shared→Prop}{s:Shared}
theorem Hc{a b:Addr}{o1 o2:Obj}{xs ys:Array Value}{n1 n2:Nat}{ns ms:List Int}{Q:Value→Shared→Prop}(h1:s.heap.get? a=some o1)(h2:s.heap.get? b=some o2)(c1:o1.cls=.type "list")(c2:o2.cls=.type "list")
  (d1:o1.data=.seq xs n1)(d2:o2.data=.seq ys n2)(e1:IntsAre xs.toList ns)(e2:IntsAre ys.toList ms)(h:Q (.bool (HT.lexLt ns ms)) s):wpAny (model prog w) A (call (.builtin "list.__lt__") [.ref a,.ref b]) Q E s:=by
 have hs:Slot "list" "__lt__" "list.__lt__":=PySem.F.slot_list_lt
 exact wpAny_call (codeAny_call_builtin hs.plain PySem.F.entry_list_lt (hs.check _ _ _ _ _ _ _ _ ⟨_,h1,c1⟩ (PySem.F.args_list_lt_2 _ _)
  (Nm a b o1 o2 xs ys n1 n2 d1 d2 c2 ns ms e1 e2 prog w A (fun r s'=>match r with|.ok (.ret v)=>Q v s'|.ok _=>False|.error e=>E e s') s ⟨h1,h2,h⟩)))
theorem Ku{a b:Addr}{o1 o2:Obj}{xs ys:Array Value}{n1 n2:Nat}{ns ms:List Int}{Q:Bool→Shared→Prop}(hu:A.units<cLine)(h1:s.heap.get? a=some o1)(h2:s.heap.get? b=some o2)(c1:o1.cls=.type "list")(c2:o2.cls=.type "list")
  (d1:o1.data=.seq xs n1)(d2:o2.data=.seq ys n2)(e1:IntsAre xs.toList ns)(e2:IntsAre ys.toList ms)(h:Q (HT.lexLt ns ms) s):wpAny (model prog w) A (keyLt' oneType' (.ref a) (.ref b)) Q E s:=by
 rw[keyLt'_oneType,oneLt'_eq]
 simp only[fD]
 refine wpAny_bind (wpAny_cRoomFor hu ?_)
 have hs:Slot "list" "__lt__" "list.__lt__":=PySem.F.slot_list_lt
 refine wpAny_bind (wpAny_callSpecialIfBound?_slot ⟨_,h1,c1⟩ hs (Hc h1 h2 c1 c2 d1 d2 e1 e2 ?_))
 exact eC h
def qe(rs:List (List Int))(i j:Nat):Bool:=HT.lexLt (rs.getD i []) (rs.getD j [])
def B1(h:Heap)(a:Addr)(r:List Int):Prop:=∃(o:Obj)(xs:Array Value)(n:Nat),h.get? a=some o∧o.cls=.type "list"∧o.data=.seq xs n∧IntsAre xs.toList r
theorem B1.kept{h h':Heap}{a:Addr}{r:List Int}(x:B1 h a r)(k: ∀b o,h.get? b=some o→h'.get? b=some o):B1 h' a r:=by
 obtain⟨o,xs,n,h1,h2⟩:=x
 exact⟨o,xs,n,k _ _ h1,h2⟩
theorem w8{a:Addr}{as:List Addr}{rs:List (List Int)}{n:Nat}{P:PySem.Fin→Shared→Prop}(hu:A.units<cLine)(ho:s.heap.get? a=some (seqObj "list" (as.map Value.ref).toArray n))(hr: ∀i,i<as.length→B1 s.heap (as.getD i 0) (rs.getD i []))(df: ∀i,i<as.length→as.getD i 0≠a)
  (L:LO (qe rs) as.length)(xw:as.length<64)
  (h: ∀p:Array Nat,pS as.length p→Up (qe rs) p as.length→P (.done (.ret .none)) {s with heap:=sortedHeap s.heap a (as.map Value.ref) (p.toList.map fun i=>Value.ref (as.getD i 0)).toArray}):
  wpAny (model prog w) A (Builtin.«list.sort» ⟨[.ref a],[]⟩) P E s:=by
 rw[list_sort_plain]
 have ha:a<s.heap.objs.size:=aS ho
 have Ro:(as.map Value.ref).length<64:=by rw[ae];exact xw
 have hvl:(as.map Value.ref).length=as.length:=ae ..
 refine wpAny_bind (listItems_at ho rfl ?_)
 refine wpAny_bind (listUpdate_at ho rfl ?_ (by rw[aV,bD];omega) (bB _))
 obtain⟨e1,Oe⟩: ∃e1,(s.heap.update a (Obj.mapSeq fun _=>#[])).get? a=some (seqObj "list" #[] e1):=⟨_,get?_update_seq ho (fun _=>#[])⟩
 refine wpAny_bind (seqEpoch_at Oe rfl ?_)
 refine wpAny_bind (wpAny_newTuple ?_ (by show(as.map Value.ref).length≤_;rw[bD];omega))
 refine wpAny_bind (wpAny_newList ?_ (bB _))
 refine fK ?_
 have keep: ∀b o,b≠a→s.heap.get? b=some o→(((s.heap.update a (Obj.mapSeq fun _=>#[])).push (seqObj "tuple" (as.map Value.ref).toArray 0)).push (seqObj "list" #[] 0)).get? b=some o:=fun b o hb q=>
  aw _ (aw _ (by rw[Heap.get?_update_ne _ _ _ _ hb];exact q))
 have Ww:(((s.heap.update a (Obj.mapSeq fun _=>#[])).push (seqObj "tuple" (as.map Value.ref).toArray 0)).push (seqObj "list" #[] 0)).get? a=some (seqObj "list" #[] e1):=aw _ (aw _ Oe)
 show wpAny (model prog w) A _ P E {s with heap:=((s.heap.update a (Obj.mapSeq fun _=>#[])).push (seqObj "tuple" (as.map Value.ref).toArray 0)).push (seqObj "list" #[] 0)}
 dsimp only
 have hsz:(as.map Value.ref).toArray.size=as.length:=by simp
 by_cases h2:(as.map Value.ref).toArray.size<2
 ·rw[aO h2,aO h2]
  refine wpAny_bind (aF ?_)
  rw[StateT.run_pure]
  refine wpAny_bind (aF ?_)
  dsimp only
  have pY:(arrOf (SortSt.mk' general' ((as.map Value.ref).toArray.zip (as.map Value.ref).toArray) #[] 7 none)).map (·.2)=((List.range as.length).map fun i=>Value.ref (as.getD i 0)).toArray:=by
   show((as.map Value.ref).toArray.zip (as.map Value.ref).toArray).map (·.2)=_
   apply Array.ext (by simp)
   intro i i1 i2
   have:i<as.length:=by simpa using i2
   simp[this]
  refine wpAny_bind (seqEpoch_at Ww rfl ?_)
  rw[pY]
  refine wpAny_bind (listUpdate_at Ww rfl ?_ (bB _) (by show((List.range as.length).map fun i=>Value.ref (as.getD i 0)).toArray.size≤_;rw[aV,ae,bh,bD];omega))
  simp only[bne_self_eq_false,dW,fb]
  exact aF (h (List.range as.length).toArray pS.range fun i j oh hj=>absurd hj (by omega))
 ·rw[aI h2,aI h2]
  refine wpAny_bind (W.kas_kind (T:=.type "list") (by omega) (fun v hv=>?_) (by decide) (by decide) ?_)
  ·obtain⟨b,hb,rfl⟩:=ay.1 hv
   obtain⟨i,hi,rfl⟩:=gm hb
   have e:as.getD i 0=as[i]:=by simp[hi]
   obtain⟨o,xs,m,q1,q2,_⟩:=hr i hi
   intro A' Q' E' s' k q
   exact wpAny_typeOf (T:="list") ⟨o,k _ _ (keep _ _ (by rw[←e];exact df i hi) (by rw[←e];exact q1)),q2⟩ q
  ·have est:SortSt.mk' oneType' ((as.map Value.ref).toArray.zip (as.map Value.ref).toArray) #[] 7 none=W.kas_st oneType' (pairsOf (as.map Value.ref)) (List.toArray (List.range as.length)):=by
    have e:=W.kas_range (pairsOf (as.map Value.ref))
    rw[pairsOf_size,hvl]at e
    unfold W.kas_st
    rw[e]
    rfl
   have ev: ∀i,i<as.length→(W.kas_item (pairsOf (as.map Value.ref)) i)=(Value.ref (as.getD i 0),Value.ref (as.getD i 0)):=fun i hi=>by
    rw[W.kas_item_eq]
    have:(as.map Value.ref).getD i Value.none=Value.ref (as.getD i 0):=by simp[hi]
    rw[this]
   have run:=W.kas_runs (prog:=prog) (w:=w) (A:=A) (E:=E) (κ:=oneType') (it:=pairsOf (as.map Value.ref)) (n:=as.length)
    (s:={s with heap:=((s.heap.update a (Obj.mapSeq fun _=>#[])).push (seqObj "tuple" (as.map Value.ref).toArray 0)).push (seqObj "list" #[] 0)})
    (Q:=fun _ zN s'=>s'={s with heap:=((s.heap.update a (Obj.mapSeq fun _=>#[])).push (seqObj "tuple" (as.map Value.ref).toArray 0)).push (seqObj "list" #[] 0)}∧∃p:Array Nat,pS as.length p∧Up (qe rs) p as.length∧arrOf zN=p.map (W.kas_item (pairsOf (as.map Value.ref)))∧failedOf zN=none)
    (G:=fun p s'=>s'={s with heap:=((s.heap.update a (Obj.mapSeq fun _=>#[])).push (seqObj "tuple" (as.map Value.ref).toArray 0)).push (seqObj "list" #[] 0)}∧pS as.length p∧Up (qe rs) p as.length)
    (by omega) xw (fun p' zN s' a1 a2 a3 a4=>⟨a4.1,p',a4.2.1,a4.2.2,a2,a3⟩)
    (Kt (lt:=qe rs) (fun i j C hi hj hC=>?_) _ (Nk L (by omega) fun q b1 b2=>⟨rfl,b1,b2⟩))
   ·rw[←est]at run
    refine wpAny_bind (i5 run ?_ fun _ _ e=>e)
    rintro⟨⟨⟩,zN⟩ s' ⟨rfl,p,hp,Wx,Fe,hf⟩
    dsimp only
    have pY:(arrOf zN).map (·.2)=(p.toList.map fun i=>Value.ref (as.getD i 0)).toArray:=by
     apply Array.toList_inj.mp
     rw[Fe,Array.map_map,Array.toList_map]
     refine bM fun i hi=>?_
     have:i<as.length:=aD.1 (hp.perm.mem_iff.1 hi)
     show(W.kas_item (pairsOf (as.map Value.ref)) i).2=_
     rw[ev i this]
    rw[pY]
    refine wpAny_bind (seqEpoch_at Ww rfl ?_)
    refine wpAny_bind (listUpdate_at Ww rfl ?_ (bB _) (by show(p.toList.map fun i=>Value.ref (as.getD i 0)).toArray.size≤_;rw[aV,ae,bS,hp.size,bD];omega))
    rw[hf]
    simp only[bne_self_eq_false,dW,fb]
    exact aF (h p hp Wx)
   ·unfold W.kas_cmp
    rw[ev i hi,ev j hj]
    obtain⟨o1,xs,n1,q1,q2,q3,q4⟩:=hr i hi
    obtain⟨o2,ys,n2,r1,r2,r3,r4⟩:=hr j hj
    exact Ku hu (keep _ _ (df i hi) q1) (keep _ _ (df j hj) r1) q2 r2 q3 r3 q4 r4 hC
theorem B2{l:Addr}{as:List Addr}{rs:List (List Int)}{Q:Value→Shared→Prop}(hu:A.units+2<cLine)(hl:s.heap.IsList l (as.map Value.ref).toArray)(hr: ∀i,i<as.length→B1 s.heap (as.getD i 0) (rs.getD i []))
  (L:LO (qe rs) as.length)(xw:as.length<64)
  (h: ∀p:Array Nat,pS as.length p→Up (qe rs) p as.length→Q (.ref (s.heap.objs.size+1)) {s with heap:=sortedAll s.heap (as.map Value.ref) (p.toList.map fun i=>Value.ref (as.getD i 0)).toArray}):
  wpAny (model prog w) A (call (.builtin "sorted") [.ref l]) Q E s:=by
 have Ro:(as.map Value.ref).length≤sizeLine:=by rw[ae,bD];omega
 refine Calls.call_function_entry kind_sorted plain_sorted entry_sorted (args_sorted1 _) ?_
 unfold Builtin.«sorted»
 refine wpAny_bind (m:=checkCount "sorted" 1 1 _) (aF ?_)
 refine wpAny_bind (collect_list hl ?_ Ro)
 refine wpAny_bind (wpAny_newList ?_ Ro)
 have hsz:((s.heap.push (seqObj "list" #[] 0)).update s.heap.objs.size (Obj.mapSeq (·++(as.map Value.ref).toArray))).objs.size=s.heap.objs.size+1:=by
  rw[Heap.size_update,size_push']
 have kept: ∀b o,s.heap.get? b=some o→(((s.heap.push (seqObj "list" #[] 0)).update s.heap.objs.size (Obj.mapSeq (·++(as.map Value.ref).toArray))).push (seqObj "list" (as.map Value.ref).toArray 0)).get? b=some o:=fun b o q=>by
  have eI:b<s.heap.objs.size:=aS q
  refine aw _ ?_
  rw[Heap.get?_update_ne _ _ _ _ (br eI)]
  exact aw _ q
 have Om:(((s.heap.push (seqObj "list" #[] 0)).update s.heap.objs.size (Obj.mapSeq (·++(as.map Value.ref).toArray))).push (seqObj "list" (as.map Value.ref).toArray 0)).get? (s.heap.objs.size+1)=some (seqObj "list" (as.map Value.ref).toArray 0):=by
  rw[←hsz];exact aZ _ rfl
 show wpAny _ _ _ _ _ {s with heap:=((s.heap.push (seqObj "list" #[] 0)).update s.heap.objs.size (Obj.mapSeq (·++(as.map Value.ref).toArray))).push (seqObj "list" (as.map Value.ref).toArray 0)}
 rw[hsz]
 refine wpAny_bind (fK (fP slot_list_sort ⟨_,Om,rfl⟩ entry_list_sort (w8 (rs:=rs) (by show A.units+1+1<cLine;omega) Om (fun i hi=>(hr i hi).kept kept) (fun i hi=>?_) L xw fun p b1 b2=>⟨_,rfl,?_⟩) (args_list_sort _)))
 ·obtain⟨o,xs,n,q,_⟩:=hr i hi
  exact br (iN (aS q))
 ·exact aF ⟨_,rfl,h p b1 b2⟩
end
end GT
end
section
namespace GT
open PySem
def Hd(xs:Array Nat):Prop:=∀i j,i<j→j<xs.size→xs.getD i 0<xs.getD j 0
theorem Hd.Fn{xs:Array Nat}(h:xs.toList.Pairwise (·<·)):Hd xs:=fun i j oh hj=>by
 have hi:i<xs.size:=by omega
 rw[qJ]at h
 have:=h i j (by simpa using hi) (by simpa using hj) oh
 simpa[Array.getD,hi,hj]using this
theorem Hd.Nn{xs:Array Nat}(h:Hd xs):xs.toList.Pairwise (·<·):=by
 rw[qJ]
 intro i j hi hj oh
 have pU:i<xs.size:=by simpa using hi
 have L1:j<xs.size:=by simpa using hj
 have:=h i j oh L1
 simpa[Array.getD,pU,L1]using this
theorem Kv(xs:Array Nat)(j:Nat)(hr:Hd xs): ∀(f lo hi:Nat),lo≤hi→hi≤xs.size→hi≤lo+f→(∀i,i<lo→xs.getD i 0<j)→(∀i,hi≤i→i<xs.size→j≤xs.getD i 0)→
  SetTable.below.go xs j f lo hi≤xs.size∧(∀i,i<SetTable.below.go xs j f lo hi→xs.getD i 0<j)∧(∀i,SetTable.below.go xs j f lo hi≤i→i<xs.size→j≤xs.getD i 0)
 |0,lo,hi,h1,h2,h3,a,b=>by
  unfold SetTable.below.go
  exact⟨by omega,a,fun i pU=>b i (by omega)⟩
 |f+1,lo,hi,h1,h2,h3,a,b=>by
  unfold SetTable.below.go
  by_cases h:lo<hi
  ·rw[aO h]
   have m1:lo≤(lo+hi) / 2:=by omega
   have m2:(lo+hi) / 2<hi:=by omega
   dsimp only
   generalize (lo+hi) / 2=m at m1 m2
   have hm:m<xs.size:=by omega
   have e:xs.getD m j=xs.getD m 0:=by simp[Array.getD,hm]
   rw[e]
   by_cases c:xs.getD m 0<j
   ·rw[aO c]
    refine Kv xs j hr f (m+1) hi (by omega) h2 (by omega) (fun i pU=>?_) b
    by_cases e1:i=m
    ·rw[e1];exact c
    ·exact Nat.lt_trans (hr i m (by omega) hm) c
   ·rw[aI c]
    refine Kv xs j hr f lo m m1 (by omega) (by omega) a (fun i pU hs=>?_)
    by_cases e1:i=m
    ·rw[e1];omega
    ·have:=hr m i (by omega) hs
     omega
  ·rw[aI h]
   exact⟨by omega,a,fun i pU=>b i (by omega)⟩
theorem Fo{xs:Array Nat}(j:Nat)(hr:Hd xs):SetTable.below xs j≤xs.size∧(∀i,i<SetTable.below xs j→xs.getD i 0<j)∧(∀i,SetTable.below xs j≤i→i<xs.size→j≤xs.getD i 0):=by
 unfold SetTable.below
 exact Kv xs j hr _ _ _ (bB _) (aq _) (by omega) (fun i hi=>absurd hi (by omega)) (fun i h1 h2=>absurd h1 (by omega))
def after(xs:Array Nat)(k:Nat):Nat:=if k=0 then 0 else xs.getD (k-1) 0+1
theorem B3{xs:Array Nat}(hr:Hd xs){k:Nat}(hk:k≤xs.size):SetTable.below xs (after xs k)=k:=by
 obtain⟨h1,h2,h3⟩:=Fo (after xs k) hr
 generalize SetTable.below xs (after xs k)=b at h1 h2 h3
 by_cases c:b<k
 ·have h4:=h3 b (aq _) (by omega)
  unfold after at h4
  rw[aI (by omega)]at h4
  by_cases e:b=k-1
  ·rw[e]at h4;omega
  ·have:=hr b (k-1) (by omega) (by omega)
   omega
 ·by_cases c2:k<b
  ·have h4:=h2 k c2
   unfold after at h4
   by_cases e:k=0
   ·rw[aO e]at h4;omega
   ·rw[aI e]at h4
    have:=hr (k-1) k (by omega) (by omega)
    omega
  ·omega
theorem DQ{xs:Array Nat}{j:Nat}(hr:Hd xs)(hn:xs[SetTable.below xs j]? ≠some j):Hd (SetTable.insertAt xs (SetTable.below xs j) j):=by
 obtain⟨h1,h2,h3⟩:=Fo j hr
 generalize SetTable.below xs j=b at h1 h2 h3 hn
 apply Hd.Fn
 rw[SetTable.toList_insertAt,List.pairwise_append]
 have hl:=hr.Nn
 refine⟨hl.sublist (List.take_sublist _ _),?_,?_⟩
 ·rw[cu]
  refine⟨fun y hy=>?_,hl.sublist (List.drop_sublist _ _)⟩
  obtain⟨i,hi,rfl⟩:=gm hy
  have LD:b+i<xs.size:=by simp at hi;omega
  rw[qO]
  have q:=h3 (b+i) (by omega) LD
  have e1:xs.getD (b+i) 0=xs.toList[b+i]'(by simpa using LD):=by simp[Array.getD,LD]
  have hb:b<xs.size:=by omega
  have q0:=h3 b (aq _) hb
  have e0:xs.getD b 0=xs[b]:=by simp[Array.getD,hb]
  have q1:xs[b]≠j:=fun z=>hn (by simp[hb,z])
  by_cases e:i=0
  ·subst e
   have:xs.toList[b+0]'(by simpa using LD)=xs[b]:=by simp
   rw[this]
   omega
  ·have q2:=hr b (b+i) (by omega) LD
   rw[←e1]
   omega
 ·intro x hx y hy
  obtain⟨i,hi,rfl⟩:=gm hx
  have LD:i<b∧i<xs.size:=by simp at hi;omega
  rw[List.getElem_take]
  have e1:xs.getD i 0=xs.toList[i]'(by simpa using LD.2):=by simp[Array.getD,LD.2]
  rw[←e1]
  have q:=h2 i LD.1
  rcases aH.1 hy with rfl|hy
  ·exact q
  ·obtain⟨i',pU,rfl⟩:=gm hy
   have Zp:b+i'<xs.size:=by simp at pU;omega
   rw[qO]
   have e2:xs.getD (b+i') 0=xs.toList[b+i']'(by simpa using Zp):=by simp[Array.getD,Zp]
   rw[←e2]
   have:=h3 (b+i') (by omega) Zp
   omega
structure uA(b:Bool)(t:SetTable):Prop where
 led:t.led=b
 dm:t.dummies=#[]
 Zq:Hd t.place
theorem uA.fresh{b:Bool}:uA b (SetTable.fresh 0 0 b):=⟨rfl,rfl,fun i j h1 h2=>by simp[SetTable.fresh]at h2⟩
theorem uA.standIn{b:Bool}{t:SetTable}(h:uA b t)(n:Nat):uA b (t.standIn n):=
 ⟨h.led,rfl,fun i j h1 h2=>by
  have h3:j<n:=by simpa[SetTable.standIn]using h2
  have h4:i<n:=by omega
  simp[SetTable.standIn,Array.getD,h3,h4,h1]⟩
theorem uA.orStandIn{b:Bool}{t:SetTable}(h:uA b t)(n:Nat):uA b (t.orStandIn n):=by
 unfold SetTable.orStandIn
 split
 ·exact h
 ·exact h.standIn n
theorem B4{t:SetTable}(hd:t.dummies=#[]){hashAt:Nat→Int}{h:Int}: ∀(f:Nat)(p:SetTable.Probe)(j:Nat)(d:Option Nat),p.dummy=none→SetTable.probe.go t hashAt h f p=some (.empty j d)→d=none∧t.slot j=.empty
 |0,p,j,d,_,e=>by cases e
 |f+1,p,j,d,hp,e=>by
  unfold SetTable.probe.go at e
  split at e
  ·rename_i hs
   cases e
   exact⟨hp,hs⟩
  ·rename_i hs
   exfalso
   unfold SetTable.slot at hs
   rw[hd]at hs
   dsimp only at hs
   split at hs
   ·cases hs
   ·simp[SetTable.has]at hs
  ·split at e
   ·cases e
   ·refine B4 hd f _ j d ?_ e
    unfold SetTable.advance
    split<;>exact hp
theorem uA.freeSlot{b:Bool}{t:SetTable}(h:uA b t){x:Int}{j:Nat}{wd:Bool}(e:t.freeSlot x=some (j,wd)):t.place[SetTable.below t.place j]? ≠some j:=by
 unfold SetTable.freeSlot at e
 split at e
 ·rename_i j' d hp
  unfold SetTable.probe at hp
  obtain⟨rfl,hs⟩:=B4 h.dm _ _ _ _ rfl hp
  have:j'=j:=by
   have:=a7 e
   exact ba (·.1) this
  subst this
  intro z
  unfold SetTable.slot at hs
  dsimp only at hs
  rw[z]at hs
  simp at hs
 ·cases e
theorem uA.put{b:Bool}{t:SetTable}(h:uA b t){j:Nat}(hn:t.place[SetTable.below t.place j]? ≠some j):uA b (t.put j).1:=by
 unfold SetTable.put
 refine⟨h.led,?_,DQ h.Zq hn⟩
 dsimp only
 rw[h.dm]
 simp[SetTable.has]
theorem uA.layNew{b:Bool}{t:SetTable}(h:uA b t)(es:Array (Int×Value))(x:Int)(v:Value):uA b (layNew t es x v).2.1:=by
 unfold PySem.layNew
 split
 ·rename_i slot wd hf
  exact(h.put (h.freeSlot hf)).orStandIn _
 ·exact h.standIn _
theorem Kw(f:Nat→Option Nat)(m:Nat):Hd (((List.range m).filterMap fun j=>(f j).map (j,·)).map (·.1)).toArray:=by
 apply Hd.Fn
 rw[qQ,List.pairwise_filterMap]
 refine gY.imp fun{a a'} h b hb b' ke=>?_
 cases e:f a with
 |none=>rw[e]at hb;cases hb
 |some y=>
  rw[e]at hb
  cases e':f a' with
  |none=>rw[e']at ke;cases ke
  |some y'=>
   rw[e']at ke
   cases hb
   cases ke
   exact h
theorem uA.relayAll{b:Bool}{t:SetTable}(h:uA b t)(es:Array (Int×Value))(wanted:Nat):uA b (relayAll t es wanted).2.1:=by
 unfold PySem.relayAll
 split
 ·rename_i t' order hr
  dsimp only
  split
  ·unfold SetTable.relaid SetTable.laid at hr
   cases hc:SetTable.layClean (SetTable.sizeAbove wanted-1) (es.map (·.1))with
   |none=>rw[hc]at hr;cases hr
   |some owner=>
    rw[hc]at hr
    have e:=a7 hr
    have e1:=ba (·.1) e
    dsimp only at e1
    rw[←e1]
    exact⟨h.led,rfl,Kw (fun j=>owner.getD j none) _⟩
  ·exact h.standIn _
 ·exact h.standIn _
end GT
end
section
namespace GT
open PySem
def vI:Value→Int
 |.int n _=>n
 |_=>0
structure Aq(es:List (Int×Value))(S:List Int):Prop where
 Rp: ∀e∈es,∃n t,e=(hashInt n,Value.int n t)
 nd:(es.map fun e=>vI e.2).Nodup
 mem: ∀x,x∈(es.map fun e=>vI e.2)↔x∈S
theorem Aq.perm{es nZ:List (Int×Value)}{S:List Int}(h:Aq es S)(p:nZ.Perm es):Aq nZ S:=
 ⟨fun e he=>h.Rp e (p.mem_iff.1 he),(p.map _).nodup_iff.2 h.nd,fun x=>((p.map _).mem_iff).trans (h.mem x)⟩
theorem Aq.same{es:List (Int×Value)}{S S':List Int}(h:Aq es S)(e: ∀x,x∈S↔x∈S'):Aq es S':=⟨h.Rp,h.nd,fun x=>(h.mem x).trans (e x)⟩
theorem Aq.add{es:List (Int×Value)}{S:List Int}(h:Aq es S){k:Int}{t:Tok}(hk:k∉S):Aq (es++[(hashInt k,Value.int k t)]) (S++[k]):=by
 refine⟨fun e he=>?_,?_,fun x=>?_⟩
 ·rcases bP.1 he with he|he
  ·exact h.Rp e he
  ·rw[aQ]at he
   exact⟨k,t,he⟩
 ·rw[bo,qM]
  refine⟨h.nd,by simp,fun a ha b hb=>?_⟩
  have:b=k:=aQ.1 hb
  subst this
  intro e
  subst e
  exact hk ((h.mem a).1 ha)
 ·rw[bo,bP,bP,h.mem x]
  exact Iff.rfl
section
variable{prog:Program}{w:World}{A:Around}{E:Value→Shared→Prop}{s:Shared}{b:Bool}
theorem Aq.elems{es:List (Int×Value)}{S:List Int}(h:Aq es S):ElemsOf (intKind prog w) es:=fun e he=>by
 obtain⟨n,t,rfl⟩:=h.Rp e he
 exact⟨⟨n,intKind_is _ _ _ _,rfl⟩,rfl⟩
theorem Aq.found{es:List (Int×Value)}{S:List Int}(h:Aq es S){k:Int}(hs:(es.findIdx? fun e=>(intKind prog w).is k e.2).isSome=true):k∈S:=by
 obtain⟨j,hj⟩:=dM.1 hs
 obtain⟨hl,hp,_⟩:=List.findIdx?_eq_some_iff_getElem.mp hj
 obtain⟨n,t,e⟩:=h.Rp es[j] (cn hl)
 rw[e]at hp
 have hn:n=k:=by
  have hd:=KeyKind.is_eq_decide (knd:=intKind prog w) (intKind_is prog w n t) k
  rw[hp]at hd
  exact(of_decide_eq_true hd.symm).symm
 rw[←h.mem k]
 exact ay.2 ⟨es[j],cn hl,by rw[e];exact hn⟩
theorem Aq.absent{es:List (Int×Value)}{S:List Int}(h:Aq es S){k:Int}(hs:(es.findIdx? fun e=>(intKind prog w).is k e.2)=none):k∉S:=by
 intro hk
 obtain⟨e,he,hv⟩:=ay.1 ((h.mem k).2 hk)
 obtain⟨n,t,rfl⟩:=h.Rp e he
 have hq:=List.findIdx?_eq_none_iff.mp hs _ he
 have:n=k:=hv
 subst this
 dsimp only at hq
 rw[intKind_is]at hq
 cases hq
def RS(b:Bool)(h:Heap)(a:Addr)(S:List Int):Prop:=∃o es ep t,h.get? a=some o∧o.ExactSet∧o.data=.set es ep t∧Aq es.toList S∧t.fits es.size=true∧es.size≤S.length∧uA b t
theorem RS.kept{h h':Heap}{a:Addr}{S:List Int}(x:RS b h a S)(k: ∀o,h.get? a=some o→h'.get? a=some o):RS b h' a S:=by
 obtain⟨o,es,ep,t,h1,h2⟩:=x
 exact⟨o,es,ep,t,k _ h1,h2⟩
theorem RS.same{h:Heap}{a:Addr}{S S':List Int}(x:RS b h a S)(e: ∀x,x∈S↔x∈S')(hl:S.length≤S'.length):RS b h a S':=by
 obtain⟨o,es,ep,t,h1,h2,h3,h4,h5,h6,h7⟩:=x
 exact⟨o,es,ep,t,h1,h2,h3,h4.same e,h5,by omega,h7⟩
theorem RS.stored{h:Heap}{a:Addr}{o:Obj}{es nZ:Array (Int×Value)}{ep:Nat}{t t':SetTable}{S:List Int}(ho:h.get? a=some o)(hx:o.ExactSet)(hd:o.data=.set es ep t)(h1:Aq nZ.toList S)(h2:t'.fits nZ.size=true)(h3:nZ.size≤S.length)(h4:uA b t'):
  ∃o',(h.update a (Obj.putSet nZ t')).get? a=some o'∧o'.ExactSet∧o'.data=.set nZ (ep+1) t'∧RS b (h.update a (Obj.putSet nZ t')) a S:=by
 have hg:=dX (Obj.putSet nZ t') ho (by rw[putSet_of nZ t' hd];rfl)
 rw[putSet_of nZ t' hd]at hg
 exact⟨_,hg,hx,rfl,_,nZ,ep+1,t',hg,hx,rfl,h1,h2,h3,h4⟩
theorem Fp{a:Addr}{o:Obj}{es w9:Array (Int×Value)}{ep:Nat}{t t1:SetTable}{S:List Int}{wd:Bool}{g:Bool→Sem Unit}{Q:Option Bool→Shared→Prop}(hg: ∀(c:Bool)(s₁:Shared)(Q':Unit→Shared→Prop),Q' () s₁→wpAny (model prog w) A (g c) Q' E s₁)
  (ho:s.heap.get? a=some o)(hx:o.ExactSet)(hd:o.data=.set es ep t)(h1:Aq w9.toList S)(h2:t1.fits w9.size=true)(h3:w9.size≤S.length)(h4:uA b t1)(hz:S.length<scanBound)
  (h: ∀h',Heap.SameBut a s.heap h'→RS b h' a S→Q (some true) {s with heap:=h'}):
  wpAny (model prog w) A (do
   storeSet a w9 t1
   if(!wd&&t1.tooFull)=true then do
    g (relayAll t1 w9 (SetTable.grown w9.size)).2.2
    storeSet a (relayAll t1 w9 (SetTable.grown w9.size)).1 (relayAll t1 w9 (SetTable.grown w9.size)).2.1
    pure (some true)
   else pure (some true)) Q E s:=by
 obtain⟨o',q1,q2,q3,q4⟩:=RS.stored (b:=b) ho hx hd h1 h2 h3 h4
 have sb:=eE s.heap a (Obj.putSet w9 t1)
 refine wpAny_bind (wpAny_storeSet_of ho hd ?_ (u1 (by omega)))
 by_cases c:(!wd&&t1.tooFull)=true
 ·rw[aO c]
  have p1:=relayAll_perm t1 w9 (SetTable.grown w9.size)
  have f1:=relayAll_fits t1 w9 (SetTable.grown w9.size)
  have k1:=h4.relayAll w9 (SetTable.grown w9.size)
  have e1:(relayAll t1 w9 (SetTable.grown w9.size)).1.size=w9.size:=by rw[←bS,p1.length_eq,bS]
  obtain⟨o2,r1,r2,r3,r4⟩:=RS.stored (b:=b) q1 q2 q3 (h1.perm p1) f1 (by omega) k1
  refine wpAny_bind (hg _ _ _ (wpAny_bind (wpAny_storeSet_of q1 q3 (aF (h _ (sb.trans (eE _ a _)) r4)) (u1 (by omega)))))
 ·rw[aI c]
  exact aF (h _ sb q4)
theorem Rq{a:Addr}{S:List Int}{k:Int}{tk:Tok}{Q:Bool→Shared→Prop}(hS:RS b s.heap a S)(hb:S.length+1<scanBound)(h: ∀c h',Heap.SameBut a s.heap h'→RS b h' a (S++[k])→Q c {s with heap:=h'}):
  wpAny (model prog w) A (setAddHashed a (.int k tk) (hashInt k)) Q E s:=by
 obtain⟨o,es,ep,t,ho,hx,hd,hE,hf,hn,hT⟩:=hS
 have MJ:ElemsOf (intKind prog w) es.toList:=hE.elems
 have Qq:=intKind_is prog w k tk
 unfold setAddHashed setAddHashedIn
 refine fK (wpAny_bind (jE ho hd hf ?_))
 dsimp only
 rw[byScan_of (x:=.int k tk) rfl (show es.size<scanBound by omega) MJ]
 simp only[↓reduceIte]
 unfold setAddByScan
 refine wpAny_bind (wpAny_bind (wpAny_rule (wpAny_bind (wpAny_setScan_of (knd:=intKind prog w) Qq ho hd hf MJ ?_))))
 cases hr:es.toList.findIdx? fun e=>(intKind prog w).is k e.2 with
 |some j=>
  have hk:k∈S:=hE.found (prog:=prog) (w:=w) (by rw[hr];rfl)
  refine aF (aF ?_)
  have:=h false s.heap (Heap.SameBut.refl a s.heap) (RS.same ⟨o,es,ep,t,ho,hx,hd,hE,hf,hn,hT⟩ (fun x=>⟨fun Zr=>fV _ Zr,fun Zr=>?_⟩) (by simp))
  ·cases s
   exact this
  ·rcases bP.1 Zr with z|z
   ·exact z
   ·rw[aQ]at z
    rw[z]
    exact hk
 |none=>
  have hk:k∉S:=hE.absent (prog:=prog) (w:=w) hr
  dsimp only
  have p1:=layNew_perm t es (hashInt k) (.int k tk)
  have f1:=layNew_fits t es (hashInt k) (.int k tk)
  have k1:=hT.layNew es (hashInt k) (.int k tk)
  show wpAny _ _ (match layNew t es (hashInt k) (.int k tk)with|(es,t,U8,adR)=>_) _ _ _
  generalize layNew t es (hashInt k) (.int k tk)=L at p1 f1 k1
  obtain⟨w9,t1,wd,gv⟩:=L
  dsimp only at p1 f1 k1⊢
  rw[Array.toList_push]at p1
  have hE1:Aq w9.toList (S++[k]):=(hE.add hk).perm p1
  have hz1:w9.size≤(S++[k]).length:=by
   have:=p1.length_eq
   simp at this⊢
   omega
  have fin: ∀h',Heap.SameBut a s.heap h'→RS b h' a (S++[k])→wpAny (model prog w) A (pure true:Sem Bool) Q E {s with heap:=h'}:=fun h' x y=>aF (h true h' x y)
  have hzz:(S++[k]).length<scanBound:=by simp;omega
  refine wpAny_bind ?_
  have gw: ∀(c:Bool)(s₁:Shared)(Q':Unit→Shared→Prop),Q' () s₁→wpAny (model prog w) A (match c with|true=>rule "set.scan.the-table-gave-way"|false=>pure ()) Q' E s₁:=fun c s₁ Q' q=>by
   cases c
   ·exact aF q
   ·exact wpAny_rule q
  refine gw gv _ _ ?_
  by_cases n9:t1.plain=true
  ·rw[aO n9]
   refine wpAny_bind (wpAny_of_eq (hashByValue_scannable 8 (x:=.int k tk) rfl) ?_)
   exact Fp gw ho hx hd hE1 f1 hz1 k1 hzz fin
  ·rw[aI n9]
   refine wpAny_bind (aF ?_)
   exact Fp gw ho hx hd hE1 f1 hz1 k1 hzz fin
end
end GT
end
section
namespace GT
open PySem
def og(w:World):Bool:=!w.params.followText "set-order"
section
variable{prog:Program}{w:World}{A:Around}{R:Result→Shared→Prop}{I:Addr}{fp wr:List Addr}{G:Array GenState→Array GenState→Prop}{n:Nat}{P:Nat→Value→Prop}{St:Nat→Shared→Prop}{b:Bool}
theorem He(val:Nat→Int)(i:Nat):(List.range (i+1)).map val=(List.range i).map val++[val i]:=by
 rw[cQ,bo]
 rfl
theorem Np(W:WalksS prog w A.in1 I fp wr G n P St)(S:Addr)(hSf:S∉fp)(val:Nat→Int)(vF: ∀i v,P i v→∃t,v=.int (val i) t)(hb:n+1<scanBound): ∀(k i:Nat)(s:Shared),n-i=k→i≤n→St i s→RS b s.heap S ((List.range i).map val)→
  (∀s',Moved (S::wr) G s s'→RS b s'.heap S ((List.range n).map val)→R (.ok (.ret .none)) s')→codeAny (model prog w) A (.builtin "set.update.loop" ⟨[.ref S,.ref I],[]⟩) R s:=by
 have hSw:S∉wr:=fun h=>hSf (W.sub _ h)
 have up: ∀c∈wr,c∈S::wr:=fun c hc=>bu _ hc
 intro k
 induction k with
 |zero=>
  intro i s hk hi st rs fin
  obtain rfl:i=n:=by omega
  refine gn AF ?_
  rw[ff jN _]
  refine wpAny_bind (m:=pyNext (.ref I)) (W.done s _ _ st fun s' mv=>?_)
  exact aF (fin s' (mv.mono up) (rs.kept fun o e=>mv.heap S o hSw e))
 |succ k ih=>
  intro i s hk hi st rs fin
  have eI:i<n:=by omega
  refine gn AF ?_
  rw[ff jN _]
  refine wpAny_bind (m:=pyNext (.ref I)) (W.item i s _ _ eI st fun v s' hP zN mv=>?_)
  obtain⟨t,rfl⟩:=vF i v hP
  have rs1:RS b s'.heap S ((List.range i).map val):=rs.kept fun o e=>mv.heap S o hSw e
  show wpAny _ A.in1 (holding [Value.int (val i) t] (setAdd S (.int (val i) t))>>=_) _ _ s'
  refine wpAny_bind (fK ?_)
  unfold setAdd
  refine fK (wpAny_bind ((intKind prog w).pyHash (k:=val i) (intKind_is _ _ _ _) ?_))
  refine Rq (s:={s' with toks:=s'.toks+1}) rs1 (by rw[ae,bh];omega) fun c h' sb rs2=>?_
  rw[←He]at rs2
  refine aF ⟨pT jN _,ih (i+1) _ (by omega) eI (W.frame _ s' _ _ zN (Nat.le_succ _) fun c hc o e=>?_) rs2 fun Ub mv2 rs3=>?_⟩
  ·have df:c≠S:=fun z=>hSf (z▸hc)
   rw[sb.2 c df]
   exact e
  ·refine fin Ub (Moved.trans W.gtrans ((mv.mono up).then_heap (Nat.le_succ _) fun c o hc e=>?_) mv2) rs3
   have df:c≠S:=fun z=>hc (z▸cv)
   rw[sb.2 c df]
   exact e
end
abbrev lI(w:World):Obj:={cls:=.type "set",dict:=none,data:=.set #[] 0 (.fresh 0 0 (og w))}
theorem DR(w:World){h:Heap}{a:Addr}(e:h.get? a=some (lI w)):RS (og w) h a []:=
 ⟨_,#[],0,_,e,⟨rfl,rfl,rfl⟩,rfl,⟨fun e he=>by simp at he,by simp,fun x=>by simp⟩,by rfl,aq _,uA.fresh⟩
section
variable{prog:Program}{w:World}{A:Around}{E:Value→Shared→Prop}{s:Shared}
theorem B5(v:Value){Q:Value→Shared→Prop}(h:Q (.ref s.heap.objs.size) {s with heap:=s.heap.push (lI w)}):codeAny (model prog w) A (.call (.builtin "set.__new__") ⟨[.type "set",v],[]⟩) (wants Q E) s:=by
 refine codeAny_of_tree ?_
 refine wpAny_bind (m:=checkBuiltinCall "set.__new__" ⟨[.type "set",v],[]⟩) (wpAny_of_eq (PySem.F.newCall_set_1 v) (aF ⟨pT PySem.F.plain_set_new _,gn PySem.F.entry_set_new ?_⟩))
 rw[ff PySem.F.plain_set_new _]
 unfold Builtin.«set.__new__» Builtin.Frozenset.newClass
 have Nq:=sub_set_self
 obtain⟨hp,g,d,tk,os⟩:=s
 dsimp only
 wp_walk
 refine ko (aF ?_)
 dsimp only
 simp only[newObj]
 exact wpAny_bind (wpAny_alloc (aF (aF h)))
theorem Kx{S l:Addr}{items:Array Value}{ns:List Int}{R:Value→Shared→Prop}(hh:A.handled=none)(hS:s.heap.get? S=some (lI w))(hl:s.heap.IsList l items)(hi:PyProof.Rows.IntsAre items.toList ns)(hb:items.size+1<scanBound)
  (h: ∀s',Moved [S,s.heap.objs.size] (fun a b=>b=a) {s with heap:=s.heap.push {cls:=.type "list_iterator",data:=.fields #[.ref l,.int 0 0]}} s'→RS (og w) s'.heap S ns→R .none s'):
  codeAny (model prog w) A (.call (.builtin "set.__init__") ⟨[.ref S,.ref l],[]⟩) (wants R E) s:=by
 have hT:Shared.TypeIs s (.ref S) "set":=⟨_,hS,rfl⟩
 refine codeAny_call_builtin PySem.F.called_set.init.plain PySem.F.entry_set_init (check_set_init_1 hT ?_)
 obtain⟨ol,Wy,lO,nl,OQ⟩:=id hl
 obtain⟨adV,abc,abd,Zs⟩:=ol
 dsimp only at lO OQ
 subst lO OQ
 have adW:=PySem.F.sub_list_set
 have adX:=PySem.F.sub_list_frozenset
 have df:(Value.type "list"==Value.type "dict")=false:=by decide
 unfold Builtin.«set.__init__» noKeywords Builtin.Frozenset.updateFrom
 generalize hPI:pyIter=PI
 wp_walk
 subst hPI
 refine wpAny_pyIter_list hl ?_
 refine wpAny_bind (wpAny_runValue ?_)
 have hlS:l<s.heap.objs.size:=aS Wy
 have hSS:S<s.heap.objs.size:=aS hS
 have hSl:S≠l:=fun z=>by
  rw[z,Wy]at hS
  have IW:Value.type "list"=Value.type "set":=ba Obj.cls (a7 hS)
  exact absurd IW (by decide)
 refine Np (b:=og w) ((Walks.list (by simp[hh]) _ l (br hlS) items).toS) S ?_ (fun i=>ns.getD i 0) (fun i v hv=>PyProof.Rows.IntsAre.int_at hi i v (by rw[Array.getElem?_toList];exact hv)) hb (items.size-0) 0 _ rfl (bB _)
  ⟨⟨_,aZ _ rfl,rfl,rfl⟩,hl.push _⟩ (DR w (aw _ hS)) fun s' mv rs=>?_
 ·simp only[aH,tR,or_false,not_or]
  exact⟨br hSS,hSl⟩
 ·refine aF (aF (h s' mv ?_))
  have e:(List.range items.size).map (fun i=>ns.getD i 0)=ns:=by
   have hlen:ns.length=items.size:=by rw[←hi.length,bS]
   rw[←hlen]
   apply bO (by simp)
   intro i h1 h2
   simp[h2]
  rw[e]at rs
  exact rs
end
end GT
end
section
namespace GT
open PySem
section
variable{prog:Program}{w:World}{A:Around}{E:Value→Shared→Prop}{s:Shared}
theorem B6{l:Addr}{items:Array Value}{ns:List Int}{Q:Value→Shared→Prop}(hh:A.handled=none)(hl:s.heap.IsList l items)(hi:PyProof.Rows.IntsAre items.toList ns)(hb:items.size+1<scanBound)
  (h: ∀s',(∀c o,s.heap.get? c=some o→s'.heap.get? c=some o)→s'.gens=s.gens→s'.drawn=s.drawn→s'.os=s.os→RS (og w) s'.heap s.heap.objs.size ns→Q (.ref s.heap.objs.size) s'):
  wpAny (model prog w) A (call (.type "set") [.ref l]) Q E s:=by
 obtain⟨c,tl,ad2⟩:=PySem.F.called_set.mro
 have Ky:=PySem.F.called_set.made
 have Nq:=PySem.F.called_set.sub
 have h1:=PySem.F.called_set.notType
 have h2:=PySem.F.called_set.canCreate
 have hct:=PySem.F.typeCall_set_1 (.ref l)
 refine wpAny_call (codeAny_of_tree ?_)
 show wpAny _ _ (callAny (.type "set") _) _ _ _
 refine aF ⟨Code.quiet_builtin _ (by decide +kernel),gn PySem.F.entry_type_call ?_⟩
 rw[Around.under_plain (weight_type_call_type "set" [.ref l] []) rfl]
 repeat (any_goals (first|assumption|wp_step))
 refine sj (B5 (w:=w) (E:=E) (.ref l) (Q:=fun obj s₁=>obj=.ref s.heap.objs.size∧s₁={s with heap:=s.heap.push (lI w)}) ⟨rfl,rfl⟩) fun r s₁ hr=>?_
 match r,hr with
 |.error e,hr=>exact hr
 |.ok (.ret obj),hr=>
  obtain⟨rfl,rfl⟩:=hr
  have hS:(s.heap.push (lI w)).get? s.heap.objs.size=some (lI w):=aZ _ rfl
  have hT:Shared.TypeIs {s with heap:=s.heap.push (lI w)} (.ref s.heap.objs.size) "set":=⟨_,hS,rfl⟩
  have hli:=PySem.F.called_set.init.lookup
  have hbi:=PySem.F.called_set.init.bind (.ref s.heap.objs.size)
  repeat (any_goals (first|assumption|wp_step))
  refine sj (Kx (w:=w) (E:=E) (s:={s with heap:=s.heap.push (lI w)}) (S:=s.heap.objs.size) (l:=l) (items:=items) (ns:=ns) (R:=fun r s₂=>r=.none∧(∀c o,s.heap.get? c=some o→s₂.heap.get? c=some o)∧s₂.gens=s.gens∧s₂.drawn=s.drawn∧s₂.os=s.os∧RS (og w) s₂.heap s.heap.objs.size ns)
   (by simp[hh]) hS (hl.push _) hi hb fun s' mv rs=>⟨rfl,fun c o e=>?_,mv.gens,mv.drawn,mv.os,rs⟩) fun r₂ s₂ B7=>?_
  ·have hc:c<s.heap.objs.size:=aS e
   refine mv.heap c o ?_ (aw _ (aw _ e))
   rw[cD]
   simp only[aH,tR,or_false,not_or]
   exact⟨br hc,br (iN hc)⟩
  ·match r₂,B7 with
   |.error e,B7=>exact B7
   |.ok (.ret r),B7=>
    obtain⟨rfl,k1,k2,k3,k4,k5⟩:=B7
    repeat (any_goals (first|assumption|wp_step))
    exact h _ k1 k2 k3 k4 k5
end
end GT
end
section
namespace GT
open PySem
theorem dw:Slot "set_iterator" "__next__" "set_iterator.__next__":=
 .of (owner:="set_iterator") (n:="__next__") (by rw[typeLookup_type,builtinLookup_eq_fast];kernel_rfl) (by decide +kernel) (by decide +kernel) (by decide +kernel) (by first|exact .inl (by decide +kernel)|exact .inr (by decide +kernel)) (by rw[isSubtype_type];kernel_rfl)
theorem jC:entryFor table "set_iterator.__next__"=some Builtin.«set_iterator.__next__»:=entryFor_of_tree (by kernel_rfl)
theorem kn(a:Value):argsOk "set_iterator.__next__" ⟨[a],[]⟩:=by unfold argsOk;kernel_rfl
theorem Ar:entryFor table "set.__iter__"=some Builtin.«frozenset.__iter__»:=entryFor_alias (id':="frozenset.__iter__") (by kernel_rfl) rfl (by decide +kernel) (by kernel_rfl)
end GT
end
section
namespace GT
open PySem
abbrev Nr(first:Value)(i:Nat)(p:Addr)(n ep:Nat):Obj:={cls:=.type "set_iterator",data:=.fields #[first,.int i 0,.ref p,.int n 0,.int ep 0]}
section
variable{prog:Program}{w:World}{A:Around}{E:Value→Shared→Prop}{s:Shared}{I p:Addr}{first:Value}{i n ep:Nat}{o:Obj}{es:Array (Int×Value)}{t:SetTable}{Q:Option Value→Shared→Prop}
theorem Fq{A':Around}{Q':Value→Shared→Prop}{E':Value→Shared→Prop}(hh:A'.handled=none)(h: ∀(h':Heap)(x:Addr)(o:Obj),h'.get? x=some o→o.cls=.type "StopIteration"→(∀b u,s.heap.get? b=some u→h'.get? b=some u)→E' (.ref x) {s with heap:=h'}):
  wpAny (model prog w) A' (newExc (.type "StopIteration") []>>=fun e=>(raiseNew e:Sem Fin)) (fun fin s'=>∃v,fin=.done (.ret v)∧Q' v s') E' s:=by
 refine wpAny_bind ?_
 simp only[newExc,newTuple]
 refine wpAny_bind (jD ?_ (by size_fits))
 refine wpAny_bind (m:=firstArgMember _ _) (wpAny_of_eq (a:=Value.none) (by first|rfl|(simp only[firstArgMember];rfl)) ?_)
 refine jD ?_ (by size_fits)
 simp only[raiseNew]
 refine wpAny_bind (wpAny_handled ?_)
 rw[hh]
 refine wpAny_bind (aF (wpAny_throw ?_))
 exact h _ _ _ (aZ _ rfl) rfl fun b u e=>aw _ (aw _ e)
theorem Kz{qF:Int}(hI:s.heap.get? I=some (Nr (rawInt qF) i p n ep))(hp:s.heap.get? p=some o)(hd:o.data=.set es ep t)(hf:t.fits es.size=true)(hn:es.size=n){x:Value}{nx:Nat}
  (hs: ∀(A':Around)(E':Value→Shared→Prop)(Q':Option (Value×Nat)→Shared→Prop),Q' (some (x,nx)) s→wpAny (model prog w) A' (setNext p qF.toNat i ep) Q' E' s)
  (h: ∀h',h'.get? I=some (Nr (rawInt nx) (i+1) p n ep)→Heap.SameBut I s.heap h'→Q (some x) {s with heap:=h'}):wpAny (model prog w) A (pyNext (.ref I)) Q E s:=by
 have hT:s.TypeIs (.ref I) "set_iterator":=⟨_,hI,rfl⟩
 unfold pyNext
 refine wpAny_bind (wpAny_attempt (l5 (name:=Str.ofString "__next__") hT dw (fP dw hT jC ?_ (kn _))))
 unfold Builtin.«set_iterator.__next__»
 refine wpAny_bind (m:=slotArgs "__next__" 0 _) (aF ?_)
 refine wpAny_bind (wpAny_fieldsOf hI rfl ?_)
 dsimp only
 refine wpAny_bind (kX hp hd hf ?_)
 rw[aI (by rw[hn];simp)]
 show wpAny _ _ (setNext p qF.toNat (i:Int).toNat (ep:Int).toNat>>=_) _ _ _
 rw[aY,aY]
 refine wpAny_bind (hs _ _ _ ?_)
 dsimp only
 have g1:=dX (Obj.mapFields (·.setIfInBounds 0 (rawInt nx))) hI rfl
 refine wpAny_bind (nQ hI rfl (by simp) ?_)
 refine wpAny_bind (nQ g1 rfl (by simp) ?_)
 have g2:=dX (Obj.mapFields (·.setIfInBounds 1 (rawInt ((i:Int)+1)))) g1 rfl
 refine aF ⟨x,rfl,aF (h _ ?_ ((eE ..).trans (eE ..)))⟩
 exact g2
theorem xb{qF:Int}(hh:A.handled=none)(hI:s.heap.get? I=some (Nr (rawInt qF) i p n ep))(hp:s.heap.get? p=some o)(hd:o.data=.set es ep t)(hf:t.fits es.size=true)(hn:es.size=n)
  (hs: ∀(A':Around)(E':Value→Shared→Prop)(Q':Option (Value×Nat)→Shared→Prop),Q' none s→wpAny (model prog w) A' (setNext p qF.toNat i ep) Q' E' s)
  (h: ∀h',Heap.ExtBut I s.heap h'→Q none {s with heap:=h'}):wpAny (model prog w) A (pyNext (.ref I)) Q E s:=by
 have hT:s.TypeIs (.ref I) "set_iterator":=⟨_,hI,rfl⟩
 unfold pyNext
 refine wpAny_bind (wpAny_attempt (l5 (name:=Str.ofString "__next__") hT dw (fP dw hT jC ?_ (kn _))))
 unfold Builtin.«set_iterator.__next__»
 refine wpAny_bind (m:=slotArgs "__next__" 0 _) (aF ?_)
 refine wpAny_bind (wpAny_fieldsOf hI rfl ?_)
 dsimp only
 refine wpAny_bind (kX hp hd hf ?_)
 rw[aI (by rw[hn];simp)]
 show wpAny _ _ (setNext p qF.toNat (i:Int).toNat (ep:Int).toNat>>=_) _ _ _
 rw[aY,aY]
 refine wpAny_bind (hs _ _ _ ?_)
 dsimp only
 refine wpAny_bind (nQ hI rfl (by simp) ?_)
 refine Fq (by exact hh) fun h' x ox e1 e2 k=>?_
 refine wpAny_bind (wpAny_isInstance (T:="StopIteration") (b:=true) ⟨_,e1,e2⟩ isSubtype_stop ?_)
 exact aF (h _ fun b u hb e=>k b u ((eE ..).extBut b u hb e))
theorem Rt{T:Addr}{ot:Obj}{ps:Array Value}{m:Nat}{j:Nat}{c:Tok}(hI:s.heap.get? I=some (Nr (.ref T) i p n ep))(hp:s.heap.get? p=some o)(hd:o.data=.set es ep t)(hf:t.fits es.size=true)(hn:es.size=n)(U9:s.heap.get? T=some ot)(Zt:ot.data=.seq ps m)
  (hj:ps[i]? =some (.int (j:Nat) c)){e0:Int×Value}(he:es[j]? =some e0)
  (h: ∀h',h'.get? I=some (Nr (.ref T) (i+1) p n ep)→Heap.SameBut I s.heap h'→Q (some e0.2) {s with heap:=h'}):wpAny (model prog w) A (pyNext (.ref I)) Q E s:=by
 have hT:s.TypeIs (.ref I) "set_iterator":=⟨_,hI,rfl⟩
 unfold pyNext
 refine wpAny_bind (wpAny_attempt (l5 (name:=Str.ofString "__next__") hT dw (fP dw hT jC ?_ (kn _))))
 unfold Builtin.«set_iterator.__next__»
 refine wpAny_bind (m:=slotArgs "__next__" 0 _) (aF ?_)
 refine wpAny_bind (wpAny_fieldsOf hI rfl ?_)
 dsimp only
 refine wpAny_bind (kX hp hd hf ?_)
 rw[aI (by rw[hn];simp)]
 refine wpAny_bind (wpAny_seqItems U9 Zt ?_)
 dsimp only
 rw[aY,hj]
 dsimp only
 refine wpAny_bind ?_
 unfold setNextDrawn
 refine wpAny_bind (jE hp hd hf ?_)
 dsimp only
 rw[aI (by simp),aY,he]
 refine aF ?_
 refine wpAny_bind (nQ hI rfl (by simp) ?_)
 have g2:=dX (Obj.mapFields (·.setIfInBounds 1 (rawInt ((i:Int)+1)))) hI rfl
 exact aF ⟨e0.2,rfl,aF (h _ g2 (eE ..))⟩
theorem DS{T:Addr}{ot:Obj}{ps:Array Value}{m:Nat}(hh:A.handled=none)(hI:s.heap.get? I=some (Nr (.ref T) i p n ep))(hp:s.heap.get? p=some o)(hd:o.data=.set es ep t)(hf:t.fits es.size=true)(hn:es.size=n)(U9:s.heap.get? T=some ot)(Zt:ot.data=.seq ps m)
  (hj:ps[i]? =none)(h: ∀h',Heap.ExtBut I s.heap h'→Q none {s with heap:=h'}):wpAny (model prog w) A (pyNext (.ref I)) Q E s:=by
 have hT:s.TypeIs (.ref I) "set_iterator":=⟨_,hI,rfl⟩
 unfold pyNext
 refine wpAny_bind (wpAny_attempt (l5 (name:=Str.ofString "__next__") hT dw (fP dw hT jC ?_ (kn _))))
 unfold Builtin.«set_iterator.__next__»
 refine wpAny_bind (m:=slotArgs "__next__" 0 _) (aF ?_)
 refine wpAny_bind (wpAny_fieldsOf hI rfl ?_)
 dsimp only
 refine wpAny_bind (kX hp hd hf ?_)
 rw[aI (by rw[hn];simp)]
 refine wpAny_bind (wpAny_seqItems U9 Zt ?_)
 dsimp only
 rw[aY,hj]
 dsimp only
 have g1:=dX (Obj.mapFields (·.setIfInBounds 0 (rawInt 0))) hI rfl
 refine wpAny_bind (nQ hI rfl (by simp) ?_)
 refine wpAny_bind (nQ g1 rfl (by simp) ?_)
 refine Fq (by exact hh) fun h' x ox e1 e2 k=>?_
 refine wpAny_bind (wpAny_isInstance (T:="StopIteration") (b:=true) ⟨_,e1,e2⟩ isSubtype_stop ?_)
 exact aF (h _ fun b u hb e=>k b u (((eE ..).trans (eE ..)).extBut b u hb e))
end
end GT
end
section
namespace GT
open PySem
theorem xc{α:Type}: ∀(l:List α)(i:Nat)(h:i<l.length),(l[i]::l.eraseIdx i).Perm l
 |x::l,0,h=>gH _
 |x::l,i+1,h=>by
  rw[List.getElem_cons_succ,List.eraseIdx_cons_succ]
  exact(List.Perm.swap _ _ _).trans ((xc l i (by simpa using h)).cons x)
theorem Fs{α:Type}(next:Nat→Nat): ∀(f k:Nat)(left:List α)(out:Array α),left.length=f→(pickOrder.go next f k left out).toList.Perm (out.toList++left)
 |0,k,left,out,h=>by
  unfold pickOrder.go
  rw[kq.1 h,dS]
 |f+1,k,left,out,h=>by
  unfold pickOrder.go
  have hm:next k % left.length<left.length:=p0 _ (by omega)
  rw[aj hm]
  dsimp only
  refine(Fs next f (k+1) _ _ (by rw[List.length_eraseIdx_of_lt hm];omega)).trans ?_
  rw[Array.toList_push,k7]
  refine List.Perm.append_left _ ?_
  exact(xc _ _ hm)
theorem tI{α:Type}(next:Nat→Nat)(xs:Array α):(pickOrder next xs).toList.Perm xs.toList:=by
 unfold pickOrder
 have:=Fs next xs.size 0 xs.toList #[] (by simp)
 simpa using this
section
variable{prog:Program}{w:World}{A:Around}{E:Value→Shared→Prop}{s:Shared}{p:Addr}{i ep slot:Nat}{o:Obj}{es:Array (Int×Value)}{t:SetTable}
theorem yR{Q:Option (Value×Nat)→Shared→Prop}(hb:w.params.followText "set-order"=true)(hp:s.heap.get? p=some o)(hd:o.data=.set es ep t)(hf:t.fits es.size=true)
  (h:Q (((pickOrder (w.params.setOrder p ep) es)[i]?).map fun e=>(e.2,slot)) s):wpAny (model prog w) A (setNext p slot i ep) Q E s:=by
 unfold setNext
 refine wpAny_bind (jE hp hd hf ?_)
 dsimp only
 unfold setsByText
 refine wpAny_bind (wpAny_bind (ko (aF ?_)))
 have ke:(model prog w).w.params.followText "set-order"=true:=hb
 rw[aO ke,aI (by simp)]
 refine wpAny_bind ?_
 unfold setWalk
 refine wpAny_bind (jE hp hd hf ?_)
 dsimp only
 unfold setsByText
 refine wpAny_bind (wpAny_bind (ko (aF ?_)))
 rw[aO ke]
 exact wpAny_bind (ko (aF (aF h)))
theorem xf{Q:Option (Value×Nat)→Shared→Prop}(hb:w.params.followText "set-order"=false)(hp:s.heap.get? p=some o)(hd:o.data=.set es ep t)(hf:t.fits es.size=true)(Zu:(!t.plain&&decide (es.size>1))=false)(hl:t.led=true)
  (h:Q (match es[SetTable.below t.place slot]?,t.place[SetTable.below t.place slot]? with|some (_,x),some j=>some (x,j+1)|_,_=>none) s):wpAny (model prog w) A (setNext p slot i ep) Q E s:=by
 unfold setNext
 refine wpAny_bind (jE hp hd hf ?_)
 dsimp only
 unfold setsByText
 refine wpAny_bind (wpAny_bind (ko (aF ?_)))
 have ke: ¬(model prog w).w.params.followText "set-order"=true:=by
  show¬w.params.followText "set-order"=true
  rw[hb]
  exact bb
 rw[aI ke]
 split
 ·rename_i hc
  have qL:(!t.plain&&decide (es.size>1))=true:=hc
  rw[Zu]at qL
  cases qL
 ·refine wpAny_bind ?_
  show wpAny _ _ (if(!t.led&&!es.isEmpty)=true then _ else _) _ _ _
  rw[hl]
  exact aF (aF h)
theorem As{src:Source}{n:Nat}{Q:Nat→Shared→Prop}(hn:0<n)(h: ∀i d,i<n→Q i {s with drawn:=d}):wpAny (model prog w) A (choose src n) Q E s:=by
 intro Γ p hΓ
 unfold choose
 rw[Sem.wp_choose]
 exact⟨by omega,h _ _ (p0 _ hn)⟩
theorem xg{α:Type}: ∀(n:Nat)(xs:List α)(s:Shared){Q:List α→Shared→Prop},xs.length=n→(∀ys d,ys.Perm xs→Q ys {s with drawn:=d})→wpAny (model prog w) A (drawOrder n xs) Q E s
 |0,xs,s,Q,hn,h=>by
  rw[kq.1 hn]at h⊢
  unfold drawOrder
  have:=h [] s.drawn (gH _)
  exact aF this
 |n+1,[],s,Q,hn,h=>by simp at hn
 |n+1,x::xs,s,Q,hn,h=>by
  unfold drawOrder
  refine wpAny_bind (As (by simp) fun i d hi=>?_)
  rw[aj hi]
  dsimp only
  refine wpAny_bind (xg n _ _ (by rw[List.length_eraseIdx_of_lt hi];simpa using hn) fun ys d' hp=>aF ?_)
  exact h _ d' ((hp.cons _).trans (xc _ _ hi))
end
end GT
end
section
namespace GT
open PySem
theorem si:Slot "set_iterator" "__iter__" "set_iterator.__iter__":=
 .of (owner:="set_iterator") (n:="__iter__") (by rw[typeLookup_type,builtinLookup_eq_fast];kernel_rfl) (by decide +kernel) (by decide +kernel) (by decide +kernel) (by first|exact .inl (by decide +kernel)|exact .inr (by decide +kernel)) (by rw[isSubtype_type];kernel_rfl)
theorem xV:entryFor table "set_iterator.__iter__"=some Builtin.«dict_keyiterator.__iter__»:=entryFor_alias (id':="dict_keyiterator.__iter__") (by kernel_rfl) rfl (by decide +kernel) (by kernel_rfl)
theorem Au(a:Value):argsOk "set_iterator.__iter__" ⟨[a],[]⟩:=by unfold argsOk;kernel_rfl
def yS(w:World)(p T:Addr)(ep:Nat)(es:Array (Int×Value))(t:SetTable)(L:Array Value)(i:Nat)(first:Value)(h:Heap):Prop:=
 (w.params.followText "set-order"=true∧(∃z:Nat,first=rawInt z)∧L=(pickOrder (w.params.setOrder p ep) es).map (·.2))∨
 (∃ps:List Nat,first=.ref T∧h.get? T=some {cls:=.type "tuple",data:=.seq (ps.map fun j=>rawInt (j:Nat)).toArray}∧(∀k,k<es.size→∃j e,ps[k]? =some j∧es[j]? =some e∧L[k]? =some e.2)∧ps.length=es.size)∨
 (w.params.followText "set-order"=false∧(!t.plain&&decide (es.size>1))=false∧first=rawInt (after t.place i:Nat)∧L=es.map (·.2))
theorem yS.kept{w:World}{p T:Addr}{ep:Nat}{es:Array (Int×Value)}{t:SetTable}{L:Array Value}{i:Nat}{first:Value}{h h':Heap}(x:yS w p T ep es t L i first h)(k: ∀o,h.get? T=some o→h'.get? T=some o):yS w p T ep es t L i first h':=by
 rcases x with x|⟨ps,a1,a2,a3⟩|x
 ·exact .inl x
 ·exact .inr (.inl ⟨ps,a1,k _ a2,a3⟩)
 ·exact .inr (.inr x)
section
variable{prog:Program}{w:World}{A:Around}{p T I:Addr}{ep:Nat}{o:Obj}{es:Array (Int×Value)}{t:SetTable}{L:Array Value}
theorem KA(hh:A.handled=none)(hd:o.data=.set es ep t)(hf:t.fits es.size=true)(hT:uA (og w) t)(Zv:I≠p)(Zw:I≠T):
  WalksS prog w A I [I,p,T] [I] (fun a b=>b=a) es.size (fun i v=>L[i]? =some v) (fun i s=>∃first,s.heap.get? I=some (Nr first i p es.size ep)∧s.heap.get? p=some o∧yS w p T ep es t L i first s.heap) where
 sub:=fun b hb=>by simp at hb;simp[hb]
 grefl:=fun _=>rfl
 gtrans:=fun _ _ _ h1 h2=>h2.trans h1
 frame:=fun i s h' tk st _ hk=>by
  obtain⟨first,h1,h2,h3⟩:=st
  exact⟨first,hk I (by simp) _ h1,hk p (by simp) _ h2,h3.kept fun o e=>hk T (by simp) o e⟩
 item:=fun i s Q E hi st h=>by
  obtain⟨first,h1,h2,h3⟩:=st
  have fin: ∀(x:Value)(Av:Value)(h':Heap),h'.get? I=some (Nr Av (i+1) p es.size ep)→Heap.SameBut I s.heap h'→L[i]? =some x→(yS w p T ep es t L (i+1) Av s.heap)→Q (some x) {s with heap:=h'}:=fun x Av h' e1 sb e2 zN=>
   h x _ e2 ⟨Av,e1,(sb.2 p (iM Zv)).trans h2,zN.kept fun o e=>(sb.2 T (iM Zw)).trans e⟩ ⟨fun b u hb e=>(sb.2 b (fun z=>hb (by simp[z]))).trans e,rfl,rfl,rfl,aq _⟩
  rcases h3 with⟨c1,⟨z,rfl⟩,c3⟩|⟨ps,rfl,c2,c3,c4⟩|⟨c1,c2,rfl,c4⟩
  ·have hsz:(pickOrder (w.params.setOrder p ep) es).size=es.size:=by
    have:=(tI (w.params.setOrder p ep) es).length_eq
    simpa using this
   have eI:i<(pickOrder (w.params.setOrder p ep) es).size:=by omega
   have e0:(pickOrder (w.params.setOrder p ep) es)[i]? =some (pickOrder (w.params.setOrder p ep) es)[i]:=by simp[eI]
   refine Kz (x:=(pickOrder (w.params.setOrder p ep) es)[i].2) (nx:=z) h1 h2 hd hf rfl (fun A' E' Q' q=>yR c1 h2 hd hf ?_) fun h' e1 sb=>fin _ _ h' e1 sb ?_ (.inl ⟨c1,⟨z,rfl⟩,c3⟩)
   ·rw[e0]
    exact q
   ·rw[c3,Array.getElem?_map,e0]
    rfl
  ·obtain⟨j,e,k1,k2,k3⟩:=c3 i hi
   refine Rt (j:=j) (c:=0) (e0:=e) h1 h2 hd hf rfl c2 rfl ?_ k2 fun h' e1 sb=>fin _ _ h' e1 sb k3 (.inr (.inl ⟨ps,rfl,c2,c3,c4⟩))
   simp[k1]
   rfl
  ·have Ru:t.place.size=es.size:=by
    simp only[SetTable.fits,aN,cV]at hf
    exact hf.1
   have hb:=B3 hT.Zq (k:=i) (by omega)
   have e0:es[i]? =some es[i]:=by simp[hi]
   have PX:i<t.place.size:=by omega
   have e1:t.place[i]? =some t.place[i]:=by simp[PX]
   have hlen:after t.place (i+1)=t.place[i]+1:=by
    unfold after
    rw[aI (by omega)]
    simp[Array.getD,PX]
   have Rv:t.led=true:=by
    rw[hT.led]
    unfold og
    rw[c1]
    rfl
   refine Kz (x:=es[i].2) (nx:=t.place[i]+1) h1 h2 hd hf rfl (fun A' E' Q' q=>?_) fun h' e2 sb=>fin _ _ h' e2 sb ?_ (.inr (.inr ⟨c1,c2,by rw[hlen],c4⟩))
   ·rw[aY]
    refine xf c1 h2 hd hf c2 Rv ?_
    rw[hb,e0,e1]
    exact q
   ·rw[c4,Array.getElem?_map,e0]
    rfl
 done:=fun s Q E st h=>by
  obtain⟨first,h1,h2,h3⟩:=st
  have fin: ∀h',Heap.ExtBut I s.heap h'→Q none {s with heap:=h'}:=fun h' eb=>h _ ⟨fun b u hb e=>eb b u (fun z=>hb (by simp[z])) e,rfl,rfl,rfl,aq _⟩
  rcases h3 with⟨c1,⟨z,rfl⟩,c3⟩|⟨ps,rfl,c2,c3,c4⟩|⟨c1,c2,rfl,c4⟩
  ·refine xb hh h1 h2 hd hf rfl (fun A' E' Q' q=>yR c1 h2 hd hf ?_) fin
   have hsz:(pickOrder (w.params.setOrder p ep) es).size=es.size:=by
    have:=(tI (w.params.setOrder p ep) es).length_eq
    simpa using this
   have e0:(pickOrder (w.params.setOrder p ep) es)[es.size]? =none:=by
    rw[←hsz]
    simp
   rw[e0]
   exact q
  ·refine DS hh h1 h2 hd hf rfl c2 rfl ?_ fin
   simp[c4]
  ·have Ru:t.place.size=es.size:=by
    simp only[SetTable.fits,aN,cV]at hf
    exact hf.1
   have hb:=B3 hT.Zq (k:=es.size) (by omega)
   have Rv:t.led=true:=by
    rw[hT.led]
    unfold og
    rw[c1]
    rfl
   refine xb hh h1 h2 hd hf rfl (fun A' E' Q' q=>?_) fin
   rw[aY]
   refine xf c1 h2 hd hf c2 Rv ?_
   rw[hb]
   have e0:es[es.size]? =none:=by simp
   rw[e0]
   exact q
 self:=fun i s Q E st h=>by
  obtain⟨first,h1,h2,h3⟩:=st
  have Ds:s.TypeIs (.ref I) "set_iterator":=⟨_,h1,rfl⟩
  refine wpAny_pyIter_slot Ds si (fP si Ds xV ?_ (Au _))
  show wpAny _ _ (ret (.ref I)) _ _ s
  exact aF ⟨_,rfl,"set_iterator",_,Ds,dw.lookup,h⟩
end
end GT
end
section
namespace GT
open PySem
section
variable{prog:Program}{w:World}{A:Around}{E:Value→Shared→Prop}{s:Shared}{p:Addr}{ep:Nat}{o:Obj}{es:Array (Int×Value)}{t:SetTable}
theorem Hf{Q:Bool→Shared→Prop}(hp:s.heap.get? p=some o)(hd:o.data=.set es ep t)(hf:t.fits es.size=true)(h:Q (!w.params.followText "set-order"&&(!t.plain&&decide (es.size>1))) s):wpAny (model prog w) A (setDrawn p) Q E s:=by
 unfold setDrawn
 refine wpAny_bind (jE hp hd hf ?_)
 dsimp only
 unfold setsByText
 exact wpAny_bind (wpAny_bind (ko (aF (aF h))))
theorem KC{Q:Value→Shared→Prop}(hp:s.heap.get? p=some o)(hx:o.ExactSet)(hd:o.data=.set es ep t)(hf:t.fits es.size=true)(hz:es.size<scanBound)
  (h: ∀(I T:Addr)(L:Array Value)(first:Value)(h':Heap)(d:Drawn),(∀b u,s.heap.get? b=some u→h'.get? b=some u)→s.heap.objs.size≤I→I≠T→(T=p∨s.heap.objs.size≤T)→h'.get? I=some (Nr first 0 p es.size ep)→yS w p T ep es t L 0 first h'→L.toList.Perm (es.toList.map (·.2))→Q (.ref I) {s with heap:=h',drawn:=d}):
  wpAny (model prog w) A (pyIter (.ref p)) Q E s:=by
 have hT:s.TypeIs (.ref p) "set":=⟨o,hp,hx.1⟩
 have eI:p<s.heap.objs.size:=aS hp
 refine wpAny_pyIter_slot hT PySem.F.slot_set_iter (fP PySem.F.slot_set_iter hT Ar ?_ (PySem.F.args_set_iter_1 _))
 unfold Builtin.«frozenset.__iter__» Builtin.Frozenset.slot0
 refine wpAny_bind (wpAny_bind (m:=slotArgs "__iter__" 0 _) (aF (aF ?_)))
 unfold Builtin.Frozenset.sizeOf
 refine wpAny_bind (wpAny_bind (kX hp hd hf (aF ?_)))
 refine wpAny_bind (Hf hp hd hf ?_)
 cases hb:w.params.followText "set-order" with
 |true=>
  simp only[Bool.not_true,jd,dW,fb]
  refine wpAny_bind (aF ?_)
  refine wpAny_bind (wpAny_setEpoch_of hp hd hf ?_)
  refine wpAny_bind (jD (aF ⟨_,rfl,"set_iterator",_,⟨_,aZ _ rfl,rfl⟩,dw.lookup,?_⟩))
  refine h s.heap.objs.size p _ (rawInt 0) _ s.drawn (fun b u e=>aw _ e) (aq _) (fg eI) (.inl rfl) (aZ _ rfl) (.inl ⟨hb,⟨0,rfl⟩,rfl⟩) ?_
  ·rw[Array.toList_map]
   exact(tI _ _).map _
 |false=>
  simp only[Bool.not_false,Bool.true_and]
  cases Zu:(!t.plain&&decide (es.size>1))with
  |false=>
   simp only[dW,fb]
   refine wpAny_bind (aF ?_)
   refine wpAny_bind (wpAny_setEpoch_of hp hd hf ?_)
   refine wpAny_bind (jD (aF ⟨_,rfl,"set_iterator",_,⟨_,aZ _ rfl,rfl⟩,dw.lookup,?_⟩))
   refine h s.heap.objs.size p _ (rawInt 0) _ s.drawn (fun b u e=>aw _ e) (aq _) (fg eI) (.inl rfl) (aZ _ rfl) (.inr (.inr ⟨hb,Zu,rfl,rfl⟩)) ?_
   ·rw[Array.toList_map]
  |true=>
   simp only[fD]
   refine wpAny_bind (xg _ _ _ (bh ..) fun ps d Ru=>?_)
   refine wpAny_bind (wpAny_newTuple ?_ (by rw[ae,Ru.length_eq,bh];exact u1 hz))
   refine wpAny_bind (wpAny_setEpoch_of (aw _ hp) hd hf ?_)
   refine wpAny_bind (jD (aF ⟨_,rfl,"set_iterator",_,⟨_,aZ _ rfl,rfl⟩,dw.lookup,?_⟩))
   have fq: ∀k,k<es.size→∃j e,ps[k]? =some j∧es[j]? =some e∧((ps.map fun j=>((es[j]?).map (·.2)).getD .none).toArray)[k]? =some e.2:=fun k hk=>by
    have JB:k<ps.length:=by rw[Ru.length_eq,bh];exact hk
    have hm:ps[k]<es.size:=aD.1 (Ru.mem_iff.1 (cn JB))
    refine⟨ps[k],es[ps[k]],by simp[JB],by simp[hm],?_⟩
    simp[JB,hm]
   refine h _ s.heap.objs.size (ps.map fun j=>((es[j]?).map (·.2)).getD .none).toArray (.ref s.heap.objs.size) _ d (fun b u e=>aw _ (aw _ e)) (uE (by rw[cD];exact mH _)) (by rw[cD];exact fg (mH _)) (.inr (aq _)) (aZ _ rfl)
    (.inr (.inl ⟨ps,rfl,aw _ (aZ _ rfl),fq,by rw[Ru.length_eq,bh]⟩)) ?_
   ·have h1:=Ru.map fun j=>((es[j]?).map (·.2)).getD Value.none
    refine h1.trans ?_
    have h2:(List.range es.size).map (fun j=>((es[j]?).map (·.2)).getD Value.none)=es.toList.map (·.2):=by
     apply bO (by simp)
     intro i i1 i2
     have:i<es.size:=by simpa using i1
     simp[this]
    rw[h2]
end
end GT
end
section
namespace GT
open PySem
theorem B8:splitId "set.__len__"=some ("set","__len__"):=by decide +kernel
section
variable{prog:Program}{w:World}{A:Around}{E:Value→Shared→Prop}{s:Shared}{p:Addr}{ep:Nat}{o:Obj}{es:Array (Int×Value)}{t:SetTable}
theorem Rw{α:Type}{M:Model}{c:Bool}{a b:Sem α}{Q:α→Shared→Prop}(hc:c=true)(h:wpAny M A a Q E s):wpAny M A (if c=true then a else b) Q E s:=by
 rw[aO hc]
 exact h
theorem KD{Q:Bool→Shared→Prop}(hp:s.heap.get? p=some o)(hx:o.ExactSet)(h:Q false s):wpAny (model prog w) A (Builtin.List.listLengthHint (.ref p)) Q E s:=by
 have hT:s.TypeIs (.ref p) "set":=⟨o,hp,hx.1⟩
 unfold Builtin.List.listLengthHint
 refine wpAny_bind (wpAny_specialOf hT PySem.F.slot_set_len.lookup ?_)
 dsimp only
 rw[B8]
 dsimp only
 refine wpAny_bind (wpAny_isInstance hT sub_set_self ?_)
 rw[aI (show¬((!true)=true) by decide)]
 refine Rw (by decide +kernel) ?_
 refine wpAny_bind (wpAny_typeOf hT ?_)
 exact aF h
theorem B9{Q:List Value→Shared→Prop}(hh:A.handled=none)(hp:s.heap.get? p=some o)(hx:o.ExactSet)(hd:o.data=.set es ep t)(hf:t.fits es.size=true)(hT:uA (og w) t)(hz:es.size<scanBound)
  (h: ∀(acc:List Value)(h':Heap)(d:Drawn)(tk:Nat),(∀b u,s.heap.get? b=some u→h'.get? b=some u)→s.heap.objs.size≤h'.objs.size→acc.Perm (es.toList.map (·.2))→Q acc {s with heap:=h',drawn:=d,toks:=tk}):wpAny (model prog w) A (collect (.ref p)) Q E s:=by
 have eI:p<s.heap.objs.size:=aS hp
 unfold collect
 refine wpAny_bind (wpAny_runValue (gn PySem.F.entry_proto_collect ?_))
 rw[ff PySem.F.plain_proto_collect _]
 show wpAny _ A.in1 (newList []>>=fun l=>again (.builtin "list.__iadd__" ⟨[l,.ref p],[]⟩)) _ _ s
 refine wpAny_bind (wpAny_newList ?_ (bB _))
 refine aF ⟨pT PySem.F.plain_list_iadd _,gn PySem.F.entry_list_iadd ?_⟩
 rw[ff PySem.F.plain_list_iadd _]
 show wpAny _ A.in1 (Builtin.List.listExtendWith (.ref s.heap.objs.size) (.ref p) (.ref s.heap.objs.size)) _ _ _
 unfold Builtin.List.listExtendWith
 have Sw:(s.heap.push {cls:=.type "list",data:=.seq ([]:List Value).toArray}).get? p=some o:=aw _ hp
 have P1:Shared.TypeIs {s with heap:=s.heap.push {cls:=.type "list",data:=.seq ([]:List Value).toArray}} (.ref p) "set":=⟨o,Sw,hx.1⟩
 refine wpAny_bind (wpAny_typeOf P1 ?_)
 have e1:Builtin.List.listSameRef (.ref s.heap.objs.size) (.ref p)=false:=by
  unfold Builtin.List.listSameRef
  exact cO.2 (fg eI)
 have e2:(Value.type "set"==Value.type "list")=false:=by decide
 have e3:(Value.type "set"==Value.type "tuple")=false:=by decide
 simp only[e1,e2,e3,Bool.or_false,dW,fb]
 refine wpAny_bind (KC (s:={s with heap:=s.heap.push {cls:=.type "list",data:=.seq ([]:List Value).toArray}}) Sw hx hd hf hz fun I T L first h1 d k1 hI Zw Zx gI st hL=>?_)
 refine wpAny_bind (fK (KD (k1 _ _ Sw) hx ?_))
 have Zy:s.heap.objs.size+1≤I:=by
  have:(s.heap.push {cls:=.type "list",data:=.seq ([]:List Value).toArray}).objs.size≤I:=hI
  rwa [cD]at this
 have g0:h1.get? s.heap.objs.size=some {cls:=.type "list",data:=.seq ([]:List Value).toArray}:=k1 _ _ (aZ _ rfl)
 split
 ·refine wpAny_bind (wpAny_rule ?_)
  refine wpAny_bind ?_
  show wpAny _ A.in1 (updateSeq s.heap.objs.size (·.push .none)>>=fun _=>updateSeq s.heap.objs.size (·.pop)) _ _ _
  refine wpAny_bind (wpAny_updateSeq g0 rfl ?_)
  have g1:=dX (Obj.mapSeq (·.push Value.none)) g0 rfl
  refine wpAny_updateSeq g1 rfl ?_
  have g2:=dX (Obj.mapSeq (·.pop)) g1 rfl
  have Wz: ∀b u,b≠s.heap.objs.size→h1.get? b=some u→((h1.update s.heap.objs.size (Obj.mapSeq (·.push Value.none))).update s.heap.objs.size (Obj.mapSeq (·.pop))).get? b=some u:=fun b u hb e=>
   (nJ _ _ (iM hb)).trans ((nJ _ _ (iM hb)).trans e)
  have hTS:T≠s.heap.objs.size:=by
   rcases Zx with rfl|Zx
   ·exact br eI
   ·have h5:(s.heap.push {cls:=.type "list",data:=.seq ([]:List Value).toArray}).objs.size≤T:=Zx
    rw[cD]at h5
    exact fg h5
  have hIS:I≠s.heap.objs.size:=fg Zy
  have Zv:I≠p:=fg (Nat.lt_trans eI Zy)
  have hn:es.size≤sizeLine:=u1 hz
  refine aF ⟨pT PySem.F.plain_extend_loop _,codeAny_extend_loopS (KA (L:=L) (by exact hh) hd hf hT Zv Zw) hn s.heap.objs.size ?_ _ es.size 0 _ _ _ rfl (bB _) ⟨first,Wz _ _ hIS gI,Wz _ _ (br eI) (k1 _ _ Sw),st.kept fun u e=>Wz _ _ hTS e⟩ g2 (ItemsOf.nil _) fun s' acc c' mv gS Vb=>?_⟩
  ·simp only[aH,tR,or_false,not_or]
   exact⟨iM hIS,fg eI,iM hTS⟩
  ·show wpAny _ A (load s.heap.objs.size>>=_) _ _ s'
   refine wpAny_bind (wpAny_load gS ?_)
   have Zz:s'={s with heap:=s'.heap,drawn:=d,toks:=s'.toks}:=by
    obtain⟨a1,a2,a3,a4,a5⟩:=s'
    have b1:a2=s.gens:=mv.gens
    have b2:a3=d:=mv.drawn
    have b3:a5=s.os:=mv.os
    subst b1 b2 b3
    rfl
   have hLs:L.size=es.size:=by
    have:=hL.length_eq
    simpa using this
   have heq:acc=L:=by
    apply Array.ext (by rw[Vb.1,hLs])
    intro i i1 i2
    have:L[i]? =some acc[i]:=Vb.2 i acc[i] (by simp[i1])
    rw[Array.getElem?_eq_getElem i2]at this
    exact(a7 this).symm
   have q:=h acc.toList s'.heap d s'.toks (fun b u e=>?_) (uE (aS gS)) (by rw[heq];exact hL)
   ·rw[←Zz]at q
    exact aF q
   ·have hb:b<s.heap.objs.size:=aS e
    refine mv.heap b u ?_ (Wz b u (br hb) (k1 _ _ (aw _ e)))
    simp only[aH,tR,or_false,not_or]
    exact⟨br hb,br (Nat.lt_trans hb Zy)⟩
 ·rename_i hc
  exact absurd (by decide +kernel) hc
end
end GT
end
section
namespace GT
open PySem PyProof.Rows
section
variable{prog:Program}{w:World}{A:Around}{E:Value→Shared→Prop}{s:Shared}{p:Addr}{ep:Nat}{o:Obj}{es:Array (Int×Value)}{t:SetTable}
theorem xh: ∀(l:List Value),(∀v∈l,∃n t,v=Value.int n t)→IntsAre l (l.map vI)
 |[],_=>IntsAre.nil
 |v::l,h=>by
  obtain⟨n,t,rfl⟩:=h v (by simp)
  exact IntsAre.cons n t (xh l fun u hu=>h u (by simp[hu]))
theorem DT{S:List Int}{Q:Value→Shared→Prop}(hh:A.handled=none)(hS:RS (og w) s.heap p S)(xw: ∀l:List Int,l.Nodup→(∀x,x∈l↔x∈S)→l.length<64)
  (h: ∀(D:Addr)(h':Heap)(d:Drawn)(tk c:Nat)(cw:List Value)(ms:List Int),(∀b u,s.heap.get? b=some u→h'.get? b=some u)→s.heap.objs.size≤D→h'.get? D=some (seqObj "list" cw.toArray c)→IntsAre cw ms→(∀x,x∈ms↔x∈S)→ms.Pairwise (·<·)→ms.length<64→Q (.ref D) {s with heap:=h',drawn:=d,toks:=tk}):
  wpAny (model prog w) A (call (.builtin "sorted") [.ref p]) Q E s:=by
 obtain⟨o,es,ep,t,ho,hx,hd,hE,hf,hn,hT⟩:=hS
 have hsz:es.size<64:=by
  have:=xw _ hE.nd hE.mem
  simpa using this
 have hp:p<s.heap.objs.size:=aS ho
 refine Calls.call_function_entry kind_sorted plain_sorted entry_sorted (args_sorted1 _) ?_
 unfold Builtin.«sorted»
 refine wpAny_bind (m:=checkCount "sorted" 1 1 _) (aF ?_)
 refine wpAny_bind (B9 (by exact hh) ho hx hd hf hT (by unfold scanBound;omega) fun acc h1 d tk k1 hle uj=>?_)
 have Dz:acc.length=es.size:=by
  have:=uj.length_eq
  simpa using this
 have hvs:acc.length≤sizeLine:=by rw[bD];omega
 refine wpAny_bind (wpAny_newList ?_ hvs)
 have hints:IntsAre acc (acc.map vI):=xh acc fun v hv=>by
  obtain⟨e,he,rfl⟩:=ay.1 (uj.mem_iff.1 hv)
  obtain⟨n,tt,rfl⟩:=hE.Rp e he
  exact⟨n,tt,rfl⟩
 have PL:(acc.map vI).Perm (es.toList.map fun e=>vI e.2):=by
  have:=uj.map vI
  rw[aU]at this
  exact this
 have Om:(h1.push (seqObj "list" acc.toArray 0)).get? h1.objs.size=some (seqObj "list" acc.toArray 0):=aZ _ rfl
 refine wpAny_bind (fK (fP slot_list_sort ⟨_,Om,rfl⟩ entry_list_sort (list_sort_tree Om hints (by omega) fun out ms b1 b2 b3=>⟨_,rfl,?_⟩) (args_list_sort _)))
 refine aF ⟨_,rfl,?_⟩
 have sT: ∀x,x∈ms↔x∈S:=fun x=>(b2.mem_iff.trans PL.mem_iff).trans (hE.mem x)
 have xD:ms.Nodup:=(b2.trans PL).nodup_iff.2 hE.nd
 obtain⟨c,hc⟩:=sortedHeap_at (out:=out) Om
 refine h _ _ d tk c out.toList ms (fun b u e=>?_) hle (by simpa using hc) b1 sT ?_ (xw ms xD sT)
 ·have hb:b<s.heap.objs.size:=aS e
  have DH:b<h1.objs.size:=bJ hb hle
  rw[sortedHeap_old (br DH) (by rw[size_push'];exact iN DH)]
  exact aw _ (k1 _ _ e)
 ·refine List.Pairwise.imp₂ (fun a b h1 h2=>?_) b3 xD
  exact Int.lt_iff_le_and_ne.2 ⟨h1,h2⟩
end
end GT
end
section
namespace GT
open PySem PySem.Spec PyProof.Rows L2
def oo:List Int→List Int→Bool
 |x::l,y::r=>decide (x<y)||(x==y&&oo l r)
 |[],_::_=>true
 |_,[]=>false
theorem Aw: ∀l r:List Int,oo l r=HT.lexLt l r
 |x::l,y::r=>by
  rw[HT.kG,oo,Aw l r]
  by_cases h:x=y
  ·subst h
   simp
  ·simp[h]
 |[],_::_=>rfl
 |[],[]=>rfl
 |_::_,[]=>rfl
theorem KG: ∀a b c:List Int,HT.lexLt a b=true→HT.lexLt b c=true→HT.lexLt a c=true
 |[],[],_,h,_=>by cases h
 |[],_::_,[],_,h=>by cases h
 |[],_::_,_::_,_,_=>rfl
 |_::_,[],_,h,_=>by cases h
 |_::_,_::_,[],_,h=>by cases h
 |x::a,y::b,z::c,h1,h2=>by
  rw[HT.kG]at h1 h2⊢
  by_cases e1:x=y
  ·subst e1
   rw[aO rfl]at h1
   by_cases e2:x=z
   ·rw[aO e2]at h2⊢
    exact KG a b c h1 h2
   ·rw[aI e2]at h2⊢
    exact h2
  ·rw[aI e1]at h1
   have Hw:=of_decide_eq_true h1
   by_cases e2:y=z
   ·subst e2
    rw[aI e1]
    exact h1
   ·rw[aI e2]at h2
    have QG:=of_decide_eq_true h2
    rw[aI (by omega)]
    exact decide_eq_true (by omega)
theorem KH: ∀a b:List Int,a≠b→HT.lexLt a b=false→HT.lexLt b a=true
 |[],[],h,_=>(h rfl).elim
 |[],_::_,_,h=>by cases h
 |_::_,[],_,_=>rfl
 |x::a,y::b,hn,h=>by
  rw[HT.kG]at h⊢
  by_cases e:x=y
  ·subst e
   rw[aO rfl]at h⊢
   exact KH a b (fun z=>hn (by rw[z])) h
  ·rw[aI e]at h
   rw[aI (iM e)]
   have:=of_decide_eq_false h
   exact decide_eq_true (by omega)
theorem Ax: ∀a b:List Int,HT.lexLt a b=true→HT.lexLt b a=false
 |[],[],h=>by cases h
 |[],_::_,_=>rfl
 |_::_,[],h=>by cases h
 |x::a,y::b,h=>by
  rw[HT.kG]at h⊢
  by_cases e:x=y
  ·subst e
   rw[aO rfl]at h⊢
   exact Ax a b h
  ·rw[aI e]at h
   rw[aI (iM e)]
   have:=of_decide_eq_true h
   exact decide_eq_false (by omega)
theorem Rx{rs:List (List Int)}{n:Nat}(hn:rs.Nodup)(hl:rs.length=n):LO (qe rs) n where
 tr:=fun i j k _ _ _ h1 h2=>KG _ _ _ h1 h2
 to:=fun i j hi hj oh h=>KH _ _ (fun e=>oh (by
  have e1:rs.getD i []=rs[i]:=by simp[show i<rs.length by omega]
  have e2:rs.getD j []=rs[j]:=by simp[show j<rs.length by omega]
  rw[e1,e2]at e
  exact(mG hn).1 e)) h
 as:=fun i j _ _ h=>Ax _ _ h
theorem yT: ∀l:List Addr,Vals (l.map V.ref) (l.map Value.ref)
 |[]=>Paired.nil
 |a::l=>by
  rw[a6,a6]
  exact Paired.cons rfl (yT l)
theorem Vals.refs: ∀{l:List Addr}{us:List Value},Vals (l.map V.ref) us→us=l.map Value.ref
 |[],us,h=>by
  rw[jw]at h
  cases h
  rfl
 |a::l,us,h=>by
  rw[a6]at h
  cases h with
  |cons r t=>
   cases r
   rw[Vals.refs t,a6]
def Hg(K:W.Frag):List V→Hp→VK→Prop:=fun vs H Q=>∃(a:Addr)(i7:List (Addr×List Int)),vs=[V.ref a]∧cy K H a (i7.map fun x=>V.ref x.1)∧(∀x∈i7,cy K H x.1 (x.2.map V.int))∧i7.length<64∧(i7.map (·.2)).Nodup∧
 ∀(qG:List (Addr×List Int))(p:Addr),qG.Perm i7→qG.Pairwise (fun x y=>oo y.2 x.2=false)→H p=none→Q (.ref p) (upd H p (.lst (qG.map fun x=>V.ref x.1)))
theorem xi{α:Type}(l:List α)(d:α):(List.range l.length).map (fun i=>l.getD i d)=l:=by
 apply bO (by simp)
 intro i h1 h2
 simp[h2]
theorem Ca{X:Cx}(hu:X.A.units+2<cLine):jI X (.builtin "sorted") (Hg X.K):=by
 intro pins s σ H vs us Q I r h
 obtain⟨a,i7,rfl,hs,j7,xw,xD,q⟩:=h
 obtain⟨cw,rv,hl,_⟩:=I.list hs
 rw[Vals.zY r]
 have ei:cw=(i7.map (·.1)).map Value.ref:=Vals.refs (by rw[aU];exact rv)
 subst ei
 have hlen:(i7.map (·.1)).length=i7.length:=ae ..
 have L:LO (qe (i7.map (·.2))) (i7.map (·.1)).length:=Rx xD (by rw[ae,ae])
 have g1: ∀i,(i7.map (·.1)).getD i 0=(i7.getD i (0,[])).1:=fun i=>by
  by_cases hi:i<i7.length<;>simp[List.getD,hi]
 have g2: ∀i,(i7.map (·.2)).getD i []=(i7.getD i (0,[])).2:=fun i=>by
  by_cases hi:i<i7.length<;>simp[List.getD,hi]
 refine B2 (rs:=i7.map (·.2)) hu hl.isList (fun i hi=>?_) L (by omega) fun p hp Wx=>?_
 ·rw[hlen]at hi
  have hm:i7.getD i (0,[])∈i7:=by
   have:i7.getD i (0,[])=i7[i]:=by simp[hi]
   rw[this]
   exact cn hi
  obtain⟨sZ,Sl,oE,_⟩:=I.list (j7 _ hm)
  obtain⟨o,n,z1,z2,z3,z4⟩:=oE
  rw[g1,g2]
  exact⟨o,sZ.toArray,n,z1,z2,z4,by simpa using Sl.ints⟩
 ·rw[hlen]at hp Wx
  have uj:(p.toList.map fun i=>i7.getD i (0,[])).Perm i7:=by
   have h1:=hp.perm.map fun i=>i7.getD i (0,[])
   rw[xi]at h1
   exact h1
  have ZA:(p.toList.map fun i=>Value.ref ((i7.map (·.1)).getD i 0))=((p.toList.map fun i=>i7.getD i (0,[])).map (·.1)).map Value.ref:=by
   rw[aU,aU]
   exact bM fun i _=>ba Value.ref (g1 i)
  obtain⟨ep,C2⟩:=PyProof.Rows.sortedAll_at s.heap ((i7.map (·.1)).map Value.ref) (p.toList.map fun i=>Value.ref ((i7.map (·.1)).getD i 0)).toArray
  refine⟨.ref _,upd H (s.heap.objs.size+1) (.lst ((p.toList.map fun i=>i7.getD i (0,[])).map fun x=>V.ref x.1)),I.laid (t':=s.toks) (fun _ _=>PyProof.Rows.sortedAll_old) (Nat.le_succ _) ⟨?_,_,ep,?_,C2⟩,rfl,q _ _ uj ?_ (I.eZ.fresh (Nat.le_succ _))⟩
  ·rw[ae,uj.length_eq]
   exact EH xw
  ·rw[ZA]
   have:=yT ((p.toList.map fun i=>i7.getD i (0,[])).map (·.1))
   rw[aU]at this
   exact this
  ·rw[qJ]
   intro i j h1 h2 oh
   have k1:i<p.toList.length:=by simpa using h1
   have k2:j<p.toList.length:=by simpa using h2
   have hsz:p.toList.length=i7.length:=by rw[hp.perm.length_eq,bh]
   have u:=Wx i j oh (by omega)
   unfold qe at u
   rw[g2,g2]at u
   have e1:g0 p i=p.toList[i]:=by simp[g0,Array.getD,show i<p.size by simpa using k1]
   have e2:g0 p j=p.toList[j]:=by simp[g0,Array.getD,show j<p.size by simpa using k2]
   rw[e1,e2]at u
   rw[bY,bY,Aw]
   exact Ax _ _ u
def Nt(P:Program)(w:World)(p:Addr)(ns:List Int)(h:Heap):Prop:=RS (og w) h p ns
def DU(P:Program)(w:World)(p:Addr)(ns:List Int):HO:=.ext (Nt P w p ns)
def OR(K:W.Frag)(P:Program)(w:World):List V→Hp→VK→Prop:=fun vs H Q=>∃(a:Addr)(ns:List Int),vs=[V.ref a]∧cy K H a (ns.map V.int)∧ns.length≤1000∧∀p,H p=none→Q (.ref p) (upd H p (DU P w p ns))
def Cb(P:Program)(w:World):List V→Hp→VK→Prop:=fun vs H Q=>∃(p:Addr)(ns:List Int),vs=[V.ref p]∧H p=some (DU P w p ns)∧(∀x∈ns,0≤x∧x<60)∧
 ∀(l:Addr)(ms:List Int),(∀x,x∈ms↔x∈ns)→ms.Pairwise (·<·)→H l=none→Q (.ref l) (upd H l (.lst (ms.map V.int)))
theorem Inv.Nu{X:Cx}{pins:List (Addr×Obj)}{σ:List (Option V)}{H:Hp}{s:Shared}(I:Inv X pins σ H s)(d:Drawn):Inv X pins σ H {s with drawn:=d}:=
 ⟨I.ok,I.os,I.bare,I.base,I.loc,I.cell,I.free,I.n8,I.pin,I.eZ,I.len⟩
theorem Nv{X:Cx}(hc:X.calm=true):jI X (.type "set") (OR X.K X.prog X.w):=by
 intro pins s σ H vs us Q I r h
 obtain⟨a,ns,rfl,hs,hn,q⟩:=h
 obtain⟨cw,rv,hl,_⟩:=I.list hs
 rw[Vals.zY r]
 have hlen:=rv.length
 rw[ae]at hlen
 refine B6 (I.ok.hd hc) hl.isList (by simpa using rv.ints) (by unfold scanBound;simp;omega) fun s' k g d os rs=>?_
 have Zz:s'={s with heap:=s'.heap,toks:=s'.toks}:=by
  obtain⟨a1,a2,a3,a4,a5⟩:=s'
  dsimp only at g d os
  subst g d os
  rfl
 have hg: ∃o,s'.heap.get? s.heap.objs.size=some o:=by
  obtain⟨o,_,_,_,h1,_⟩:=id rs
  exact⟨o,h1⟩
 refine⟨.ref _,upd H s.heap.objs.size (DU X.prog X.w s.heap.objs.size ns),?_,rfl,q _ (I.eZ.fresh (aq _))⟩
 rw[Zz]
 exact I.laid k (aq _) ⟨rs,hg,fun h1 h2 x kk=>RS.kept x kk⟩
theorem KI{ns l:List Int}(h: ∀x∈ns,0≤x∧x<60)(hl:l.Nodup)(hm: ∀x,x∈l↔x∈ns):l.length<64:=by
 have:=Ch.a8 (m:=(List.range 60).map fun(i:Nat)=>(i:Int)) hl fun a ha=>by
  obtain⟨h1,h2⟩:=h a ((hm a).1 ha)
  refine ay.2 ⟨a.toNat,aD.2 (by omega),?_⟩
  omega
 simp at this
 omega
theorem DV{X:Cx}(hc:X.calm=true):jI X (.builtin "sorted") (Cb X.prog X.w):=by
 intro pins s σ H vs us Q I r h
 obtain⟨p,ns,rfl,hH,hb,q⟩:=h
 rw[Vals.zY r]
 have hk:=I.eZ p _ hH
 obtain⟨rs,_⟩:=hk
 refine DT (I.ok.hd hc) rs (fun l hl hm=>KI hb hl hm) fun D h' d tk c cw ms k hD gD hi hm hp xw=>?_
 refine⟨.ref D,upd H D (.lst (ms.map V.int)),?_,rfl,q D ms hm hp (I.eZ.fresh hD)⟩
 exact Inv.Nu (I.laid (t':=tk) (a:=D) (o:=.lst (ms.map V.int)) k hD ⟨by rw[ae];exact EH xw,cw,c,rQ hi,gD⟩) d
end GT
end
section
namespace GT
open PySem PySem.Spec PyProof.Rows L2
open Rd01 (Grp factsOf)
open Ch (ic gR pW mulR lZ qm md gy l0 jU gW L3)
section
variable{P:Program}{w:World}{K:W.Frag}{mg:Str→Option Value}{base:Heap}
def OS:Sp:=fun vs H Q _=>∃d:Nat,vs=[.int ((d*d:Nat):Int)]∧1≤d∧d≤1000∧Q (.int (d:Nat)) H
theorem DW:bf ["square","degree"] ["square"] (aB oY):=⟨rfl,rfl,rfl,by decide +kernel,rfl,by decide +kernel,by decide +kernel⟩
theorem Ry{f:Addr}{fd:FuncData}(F:f6 K "degree_of" "degree_of" oY f fd):cF P w K mg base fT 1 f fd ["square"] OS:=by
 refine F.ok DW (fun vs H Q E h=>?_) (fun eM A outer s H vs Q E hr h=>?_)
 ·obtain⟨d,rfl,_⟩:=h
  rfl
 ·obtain⟨d,rfl,h1,h2,k⟩:=h
  refine⟨_,ak (bI (i:=1) DW.nd rfl (Or.inl rfl) bG)
   (ak (iT bx (cJ wu (dF jm (L2.pv 1) (L2.pv 1)) (L2.pv 0) (cW _))
    (aA (sV (i:=1) DW.nd rfl (Or.inl rfl) bG qr)))
   (aA (a9 (L2.pv 1)))),?_⟩
  refine⟨fun m σ H'=>∃c:Nat,σ=[some (.int ((d*d:Nat):Int)),some (.int (c:Nat))]∧H'=H∧c≤d∧m=d-c,⟨_,1,rfl,rfl,h1,rfl⟩,?_⟩
  rintro m σ H' ⟨c,rfl,rfl,hc,rfl⟩
  refine⟨_,rfl,_,rfl,_,_,rfl,rfl,.inl ⟨by omega,by omega⟩,_,rfl,_,_,rfl,rfl,_,rfl,?_⟩
  have ec:(c:Int)*(c:Int)=((c*c:Nat):Int):=by push_cast;rfl
  refine gA (fun eI=>?_) (fun Ed=>?_)
  ·have Ag:c*c<d*d:=by
    have:=of_decide_eq_true eI
    rw[ec]at this
    omega
   have tV:c<d:=by
    apply ai
    intro hn
    have:c=d:=by omega
    subst this
    omega
   refine⟨fun σ' yH=>σ'=[some (.int ((d*d:Nat):Int)),some (.int ((c+1:Nat):Int))]∧yH=H',?_,?_⟩
   ·rintro σ' yH ⟨rfl,rfl⟩
    exact⟨d-(c+1),by omega,c+1,rfl,rfl,tV,rfl⟩
   ·refine⟨_,rfl,_,_,rfl,rfl,?_,rfl⟩
    push_cast
    rfl
  ·have Uv:d*d≤c*c:=by
    have: ¬((c:Int)*(c:Int)<((d*d:Nat):Int)):=fun q=>Ed (decide_eq_true q)
    rw[ec]at this
    omega
   have tV:c=d:=by
    apply ai
    intro hn
    have h3:c<d:=by omega
    have h4:c*c≤c*d:=fe c (by omega)
    have h5:c*d<d*d:=Nat.mul_lt_mul_of_pos_right h3 (by omega)
    omega
   subst tV
   exact⟨_,rfl,k⟩
def Cc(K:W.Frag)(C:Addr):Sp:=fun vs H Q _=>∃(q:Addr)(g:Grp)(vc v:V)(r:List Nat),vs=[.ref q,v]∧Gr K C H q g vc∧Sp.jO g∧g.n≤64∧0<(factsOf g).prime∧IL K H v (bj r)∧r.length=(factsOf g).many∧∀H',a0 H H'→Q (.int ((factsOf g).kind (factsOf g).prime r:Nat)) H'
theorem jv:bf ["group","character","squares","total","thing","row","square"] ["group","character"] (aB mr):=⟨rfl,rfl,rfl,by decide +kernel,rfl,by decide +kernel,by decide +kernel⟩
theorem yU{l:List Nat}{i:Nat}(hi:i<l.length):((bj l).map V.int)[i]? =some (V.int ((l.getD i 0:Nat):Int)):=by
 rw[bj,aU,ag,af,aj hi]
 rfl
theorem Hh(l:List Nat):(bj l).sum=((l.sum:Nat):Int):=by
 induction l with
 |nil=>rfl
 |cons a l ih=>
  rw[bj,a6,mJ,mJ,←bj,ih]
  push_cast
  rfl
theorem Hi{f C:Addr}{fd:FuncData}(F:f6 K "kind_of" "kind_of" mr f fd)(T:Txt mg)(T2:Txt2 mg)(R:jK K C):cF P w K mg base fT 1 f fd ["group","character"] (Cc K C):=by
 refine F.ok jv (fun vs H Q E h=>?_) (fun eM A outer s H vs Q E hr h=>?_)
 ·obtain⟨q,g,vc,v,r,rfl,_⟩:=h
  rfl
 ·obtain⟨q,g,vc,v,r,rfl,hG,hg,xw,hp,⟨a,rfl,ha⟩,kZ,k⟩:=h
  refine⟨_,ak (gf rfl jv.nd (i:=2) rfl rfl (by rfl) (rS rfl T.enum (ah (bz (L2.pv 0) rfl) ax)) (own:=[("thing",4),("row",5)]) (cB (by show ij ["group","character","squares","total","thing","row","square"] (aB mr) _ _=true;decide +kernel))
    (g:=xS K 2 (iS (gM 4) (iS (gM 5) xR))) (fun s H C cl fp=>lQ rfl (dz (bE (i:=4) jv.nd rfl (Or.inl rfl) (.inr rfl)) (dz (bE (i:=5) jv.nd rfl (Or.inl rfl) (.inr rfl)) jy))) (fun s H C cl fp=>cZ)
    (fun s H C cl fp=>cK (show EF _ (mj K)from bH) (L2.pv 5) (L2.pv 4) (fun _ _=>rfl)))
   (ak (bI (i:=3) jv.nd rfl (Or.inl rfl) (dF jV (bZ (Jv rfl) (by rfl) T2.sum yJ (ah (je rfl jv.nd (d8 (L2.pv 2)) (own:=[("square",6)]) (cB (by show ij ["group","character","squares","total","thing","row","square"] (aB mr) _ _=true;decide +kernel))
     (fun s H C cl fp=>bE (i:=6) jv.nd rfl (Or.inl rfl)) (fun s H C cl fp=>cZ)
     (te:=Ey (mj K) _ (Ey (mj K) (Mq K _ "class_numbers") _)) (fun s H C cl fp=>cK (show EF _ (mj K)from bH) (L2.pv 1) (cK (show EF _ (mj K)from bH) (bz (L2.pv 0) rfl) (L2.pv 6) (fun _ _=>rfl)) (fun _ _=>rfl))) ax)) (bz (L2.pv 0) rfl)))
   (ak (dR (cJ iE (L2.pv 3) (dF jV (bz (L2.pv 0) rfl) (bz (L2.pv 0) rfl)) (cW _)) (aA (a9 bG)) cq)
   (ak (dR (cJ iE (L2.pv 3) bG (cW _)) (aA (a9 bG)) cq)
   (aA (a9 bG))))),?_⟩
  obtain⟨dx,vP,vI,vN,vM,vS,G⟩:=id hG
  obtain⟨pa,as,rfl,HB,has⟩:=G.pr
  obtain⟨na,rfl,Nf⟩:=G.nm
  have hlen:as.length=g.n:=by rw[has.len,Sp.ek]
  have oj:(as.map V.ref).length=g.n:=by rw[ae,hlen]
  refine⟨_,rfl,q,C,dx,_,_,rfl,G.ins,R.cl,R.nP,gi _ _ _ _ _ _ _ _,pa,_,rfl,HB,fun D hD=>eg (rX HB) (by rw[oj];omega) hD ((bj ((List.range g.n).map fun x=>(factsOf g).mul x x)).map V.int) (by simp[bj,hlen]) ?_ ?_⟩
  ·rintro i x H' Z hi e ⟨Tt,x',rfl,xZ,hT⟩ z
   rw[oj]at hi
   obtain⟨b,hb,rfl⟩:=er xZ
   obtain⟨b',ke,rr,iF,_,hv⟩:=qD hg has hi
   rw[hb]at ke
   cases ke
   refine⟨Tt,_,rfl,.inl (.inl hT),rfl,_,_,rfl,_,_,rfl,rfl,rfl,_,rfl,_,rfl,b,_,_,_,rfl,rfl,e.seq iF,at_of (j:=i) rfl (hv _ hi),z _ _ a0.refl ?_⟩
   rw[bj,aU,aU,ag,aX hi]
   rfl
  ·intro H1 e1 Ff
   refine⟨_,rfl,D,rfl,⟨_,cy.of Ff⟩,fun M hM=>eg (iG (cy.of (K:=K) Ff)) (by rw[ae,bj,ae,ae,bh];omega) hM ((bj ((List.range g.n).map fun x=>Rd01.val r ((factsOf g).classOf ((factsOf g).mul x x)))).map V.int) (by simp[bj]) ?_ ?_⟩
   ·intro i x H' Z hi e it z
    obtain⟨m,hm,rfl⟩:=kP it
    rw[ag]at hm
    have pU:i<g.n:=by
     rw[ae,bj,ae,ae,bh]at hi
     exact hi
    rw[aX pU]at hm
    cases hm
    have hmul:=Sp.jQ hg pU pU
    have lO:=Sp.kE hg hmul
    have e2:=e1.trans e
    refine⟨rfl,_,rfl,_,rfl,q,C,dx,_,_,rfl,e2 _ _ G.ins,R.cl,R.nN,ny _ _ _ _ _ _ _ _,_,rfl,na,_,_,_,rfl,rfl,e2.seq Nf,at_of (j:=(factsOf g).mul i i) rfl (uW g hmul),a,_,_,_,rfl,rfl,e2.seq ha,at_of (j:=(factsOf g).classOf ((factsOf g).mul i i)) rfl (yU (by omega)),z _ _ a0.refl ?_⟩
    rw[bj,aU,aU,ag,aX pU]
    rfl
   ·intro H2 e2 hM2
    have qB:=e1.trans e2
    refine⟨M,_,rfl,cy.of hM2,_,rfl,q,C,dx,_,_,rfl,qB _ _ G.ins,R.cl,R.nR,kR _ _ _ _ _ _ _ _,_,_,rfl,rfl,(by show(0:Int)<((factsOf g).prime:Int);omega),?_⟩
    rw[Hh]
    refine⟨_,rfl,_,rfl,q,C,dx,_,_,rfl,qB _ _ G.ins,R.cl,R.nO,jL _ _ _ _ _ _ _ _,_,rfl,q,C,dx,_,_,rfl,qB _ _ G.ins,R.cl,R.nR,kR _ _ _ _ _ _ _ _,_,_,rfl,rfl,(by show(0:Int)<((factsOf g).prime:Int);omega),rfl,_,rfl,?_⟩
    have hk:(factsOf g).kind (factsOf g).prime r=if((List.range g.n).map fun x=>Rd01.val r ((factsOf g).classOf ((factsOf g).mul x x))).sum % (factsOf g).prime=g.n % (factsOf g).prime then 1 else if((List.range g.n).map fun x=>Rd01.val r ((factsOf g).classOf ((factsOf g).mul x x))).sum % (factsOf g).prime=0 then 0 else 2:=rfl
    generalize ((List.range g.n).map fun x=>Rd01.val r ((factsOf g).classOf ((factsOf g).mul x x))).sum=S at hk⊢
    refine gA (fun h1=>?_) (fun h1=>?_)
    ·have h2:V.int ((S:Int) % ((factsOf g).prime:Int))=V.int ((g.n:Int) % ((factsOf g).prime:Int)):=of_decide_eq_true h1
     injection h2 with h2
     have h3:S % (factsOf g).prime=g.n % (factsOf g).prime:=by omega
     rw[aO h3]at hk
     rw[hk]at k
     exact k _ qB
    ·have h3: ¬S % (factsOf g).prime=g.n % (factsOf g).prime:=by
      intro h4
      apply h1
      show decide (V.int ((S:Int) % ((factsOf g).prime:Int))=V.int ((g.n:Int) % ((factsOf g).prime:Int)))=true
      rw[show((S:Int) % ((factsOf g).prime:Int))=((g.n:Int) % ((factsOf g).prime:Int)) by omega]
      simp
     rw[aI h3]at hk
     refine⟨_,rfl,rfl,_,rfl,?_⟩
     refine gA (fun h4=>?_) (fun h4=>?_)
     ·have h5:V.int ((S:Int) % ((factsOf g).prime:Int))=V.int 0:=of_decide_eq_true h4
      injection h5 with h5
      have h6:S % (factsOf g).prime=0:=by omega
      rw[aO h6]at hk
      rw[hk]at k
      exact k _ qB
     ·have h6: ¬S % (factsOf g).prime=0:=by
       intro h7
       apply h4
       show decide (V.int ((S:Int) % ((factsOf g).prime:Int))=V.int 0)=true
       rw[show((S:Int) % ((factsOf g).prime:Int))=0 by omega]
       rfl
      rw[aI h6]at hk
      rw[hk]at k
      exact k _ qB
end
end GT
end
section
namespace GT
open PySem PySem.Spec PyProof.Rows L2
open Rd01 (Grp factsOf)
open Ch (ic gR pW mulR lZ qm md gy l0 jU gW L3 Alg)
section
variable{P:Program}{w:World}{K:W.Frag}{mg:Str→Option Value}{base:Heap}
def DX(g:Grp)(i:Nat):List (List Int):=(List.range (factsOf g).many).map fun c=>sg g i ((factsOf g).reps.getD c 0)
theorem yV{g:Grp}{i:Nat}(hi:i<(factsOf g).many):(factsOf g).reps.getD i 0=(factsOf g).reps[i]'hi:=by
 have h1:i<(factsOf g).reps.length:=hi
 rw[af,aj h1]
 rfl
theorem Nw{g:Grp}(hg:Sp.jO g)(i:Fin (factsOf g).many):(Sp.classes hg).Bi i=DX g i.val:=by
 unfold Ch.Cl.Bi DX
 rw[Sp.iP,aU]
 apply bM
 intro c _
 show _=sg g i.val ((factsOf g).reps.getD c.val 0)
 unfold sg
 rw[Sp.iP,aU]
 apply bM
 intro j _
 rw[Sp.mO]
 show((_:Nat):Int)=((_:Nat):Int)
 rw[yV c.isLt]
 rfl
def OT(K:W.Frag)(C:Addr):Sp:=fun vs H Q _=>∃(q:Addr)(g:Grp)(vc:V)(i:Nat),vs=[.ref q,.int (i:Nat)]∧Gr K C H q g vc∧Sp.jO g∧g.n≤64∧i<(factsOf g).many∧JY H Q (DX g i)
theorem DY:bf ["group","number","members"] ["group","number"] (aB iU):=⟨rfl,rfl,rfl,by decide +kernel,rfl,by decide +kernel,by decide +kernel⟩
theorem Rz{f C:Addr}{fd:FuncData}(F:f6 K "class_matrix" "class_matrix" iU f fd)(R:jK K C)(c1:iJ P w K mg base 1 "ways_for_each" ["group","first","thing"] (Ap K C)):cF P w K mg base fT 2 f fd ["group","number"] (OT K C):=by
 refine F.ok DY (fun vs H Q E h=>?_) (fun eM A outer s H vs Q E hr h=>?_)
 ·obtain⟨q,g,vc,i,rfl,_⟩:=h
  rfl
 ·obtain⟨q,g,vc,i,rfl,hG,hg,xw,hi,k⟩:=h
  refine⟨_,aA (a9 (je rfl DY.nd (d8 (bz (L2.pv 0) rfl)) (own:=[("members",2)]) (cB (by show ij ["group","number","members"] (aB iU) _ _=true;decide +kernel))
   (fun s H C cl fp=>bE (i:=2) DY.nd rfl (Or.inl rfl)) (fun s H C cl fp=>cZ)
   (te:=rO (Ap K C) [] E0 (uf _ (uf _ (uf (Ey (mj K) _ _) zQ)))) (fun s H _ cl fp=>bQ c1 hr rfl (ah (L2.pv 0) (ah (L2.pv 1) (ah (cK (show EF _ (mj K)from bH) (L2.pv 2) bG (fun _ _=>rfl)) ax)))))),?_⟩
  obtain⟨dx,vP,vI,vN,vM,vS,G⟩:=id hG
  obtain⟨ma,ms,rfl,OO,sT⟩:=G.mb
  have yw:ms.length=(factsOf g).many:=by rw[sT.len,Sp.rF hg]
  have Ga:=Sp.lz hg
  refine⟨_,rfl,q,C,dx,_,_,rfl,G.ins,R.cl,R.nM,nz _ _ _ _ _ _ _ _,ma,rfl,⟨_,OO⟩,fun D hD=>r6 (iG OO) (by rw[ae];omega) hD (DX g i) (by simp[DX,yw]) ?_ ?_⟩
  ·intro c x H' Z hc e it z
   rw[ae,yw]at hc
   obtain⟨b,hb,rfl⟩:=er it
   obtain⟨b',ke,Fh,Iq⟩:=tH hg sT hc
   rw[hb]at ke
   cases ke
   refine⟨rfl,_,rfl,_,rfl,_,rfl,b,_,_,_,rfl,rfl,e.seq Fh,at_of (j:=0) rfl Iq,q,g,vc,i,(factsOf g).reps[c]'hc,rfl,hG.same e,hg,xw,hi,Sp.jk hg hc,fun y H2 e2 hy Lp=>z y _ H2 e2 hy ?_ Lp⟩
   rw[DX,ag,aX hc]
   show some (sg g i ((factsOf g).reps.getD c 0))=some (sg g i ((factsOf g).reps[c]'hc))
   rw[yV hc]
  ·intro H' as e rY j7 Gv _
   exact k D as H' e hD (fun b hb=>(Gv b hb).1) rY j7
def KJ(K:W.Frag)(C:Addr):Sp:=fun vs H Q _=>∃(q:Addr)(g:Grp)(vc v:V)(_:NeZero (factsOf g).prime)(part:List Int)(d:Nat)(cr:List Nat),vs=[.ref q,v]∧Gr K C H q g vc∧Sp.jO g∧g.n≤24∧IL K H v part∧part.length=(factsOf g).many∧pW (factsOf g).prime part∧1≤d∧d*d≤g.n∧
 (mulR (factsOf g).prime part (g.n:Int)).getD 0 0=((d*d:Nat):Int)∧(List.range (factsOf g).many).map (fun i=>(mulR (factsOf g).prime (mulR (factsOf g).prime part (g.n:Int)) (gW (factsOf g).prime (d:Int))).getD (Sp.we g i) 0)=bj cr∧tD H Q (bj cr)
theorem tJ:bf ["group","part","products_with_degree","degree","numbers","number"] ["group","part"] (aB fm):=⟨rfl,rfl,rfl,by decide +kernel,rfl,by decide +kernel,by decide +kernel⟩
theorem Ny{g:Grp}(hg:Sp.jO g){i:Nat}(hi:i<(factsOf g).many):Sp.we g i<(factsOf g).many:=by
 unfold Sp.we
 rw[Sp.CF g hi]
 exact Sp.kE hg (Sp.jR hg (Sp.jk hg hi))
theorem RA{f C:Addr}{fd:FuncData}(F:f6 K "character_of_part" "character_of_part" fm f fd)(T:Txt mg)(R:jK K C)(c1:iJ P w K mg base 1 "multiple" ["row","factor","prime"] (E8 K))(c2:iJ P w K mg base 1 "degree_of" ["square"] OS)
  (c3:iJ P w K mg base 1 "inverse_number" ["number","prime"] Aj)(m1:jX P w K mg base 1 C "opposite" ["self","number"] (Kn K C)):cF P w K mg base fT 2 f fd ["group","part"] (KJ K C):=by
 refine F.ok tJ (fun vs H Q E h=>?_) (fun eM A outer s H vs Q E hr h=>?_)
 ·obtain⟨q,g,vc,v,_,part,d,cr,rfl,_⟩:=h
  rfl
 ·obtain⟨q,g,vc,v,hz,part,d,cr,rfl,hG,hg,g6,⟨a,rfl,ha⟩,n9,F6,vf,hd2,hpd,MZ,k⟩:=h
  refine⟨_,ak (bI (i:=2) tJ.nd rfl (Or.inl rfl) (bQ c1 hr rfl (ah (L2.pv 1) (ah (bz (L2.pv 0) rfl) (ah (bz (L2.pv 0) rfl) ax)))))
   (ak (bI (i:=3) tJ.nd rfl (Or.inl rfl) (bQ c2 hr rfl (ah (cK bH (L2.pv 2) bG (fun _ _=>rfl)) ax)))
   (ak (bI (i:=4) tJ.nd rfl (Or.inr rfl) (bQ c1 hr rfl (ah (L2.pv 2) (ah (bQ c3 hr rfl (ah (L2.pv 3) (ah (bz (L2.pv 0) rfl) ax))) (ah (bz (L2.pv 0) rfl) ax)))))
   (aA (a9 (je rfl tJ.nd (fQ rfl T.range (ah (bZ bN (by rfl) T.len bK (ah (L2.pv 4) ax)) ax)) (own:=[("number",5)]) (cB (by show ij ["group","part","products_with_degree","degree","numbers","number"] (aB fm) _ _=true;decide +kernel))
    (fun s H C cl fp=>bE (i:=5) tJ.nd rfl (Or.inl rfl)) (fun s H C cl fp=>cZ)
    (te:=Ey (mj K) _ (yo C _ (Kn K C) [] E0 _ _)) (fun s H _ cl fp=>cK (show EF _ (mj K)from bH) (L2.pv 4) (eW m1 R.cl hr (L2.pv 0) (ah (L2.pv 5) ax)) (fun _ _=>rfl))))))),?_⟩
  obtain⟨dx,vP,vI,vN,vM,vS,G⟩:=id hG
  obtain⟨uV,GV,_⟩:=Sp.fF hg g6
  have ZC:=wZ g
  have Ga:=Sp.lz hg
  have WA:=Sp.rG hg
  have Lo:d≤g.n:=bW (cH d (by omega)) hd2
  refine⟨_,rfl,_,rfl,q,C,dx,_,_,rfl,G.ins,R.cl,R.nO,jL _ _ _ _ _ _ _ _,_,rfl,q,C,dx,_,_,rfl,G.ins,R.cl,R.nR,kR _ _ _ _ _ _ _ _,(factsOf g).prime,_,part,_,rfl,⟨a,rfl,ha⟩,by omega,fun x hx=>by have:=F6 x hx;omega,by omega,fun b H1 e1 hb DH=>?_⟩
  have Cn:(mulR (factsOf g).prime part (g.n:Int)).length=(factsOf g).many:=by rw[Ch.oO,n9]
  have UE:pW (factsOf g).prime (mulR (factsOf g).prime part (g.n:Int)):=Ch.oN _ _
  refine⟨_,rfl,b,_,_,_,rfl,rfl,cy.of DH,at_of (j:=0) rfl (sx (by rw[Cn];exact WA)),d,(by rw[hpd];rfl),vf,by omega,?_⟩
  refine⟨_,rfl,_,rfl,_,rfl,q,C,dx,_,_,rfl,e1 _ _ G.ins,R.cl,R.nR,kR _ _ _ _ _ _ _ _,(factsOf g).prime,hz,_,rfl,uV,by omega,_,rfl,q,C,dx,_,_,rfl,e1 _ _ G.ins,R.cl,R.nR,kR _ _ _ _ _ _ _ _,(factsOf g).prime,_,_,_,rfl,⟨b,rfl,cy.of DH⟩,by omega,fun x hx=>by have:=UE x hx;omega,by omega,fun c H2 e2 hc So=>?_⟩
  have oE:(mulR (factsOf g).prime (mulR (factsOf g).prime part (g.n:Int)) (gW (factsOf g).prime (d:Int))).length=(factsOf g).many:=by rw[Ch.oO,Cn]
  have qB:=e1.trans e2
  refine⟨_,rfl,c,_,rfl,.inl (cy.of So),_,rfl,by rw[ae,oE];omega,by rw[ae,oE];omega,?_⟩
  rw[ae,oE,aY]
  intro D hD
  refine eg pk (by omega) hD ((bj cr).map V.int) (by rw[←MZ];simp) ?_ ?_
  ·rintro i x H' Z hi e rfl z
   have e3:=qB.trans e
   have Vc:=hG.same e3
   refine⟨rfl,_,rfl,_,rfl,q,dx,_,rfl,e3 _ _ G.ins,rfl,_,rfl,q,g,vc,i,?_,Vc,hg,hi,c,_,_,_,rfl,rfl,cy.of (e _ _ So),at_of (j:=Sp.we g i) rfl (sx (by rw[oE];exact Ny hg hi)),z _ _ a0.refl ?_⟩
   ·rw[fj]
    rfl
   ·rw[←MZ,aU,ag,aX hi]
    rfl
  ·intro H' e rY
   exact k _ _ (qB.trans e) (cg qB hD) rY
def OU(K:W.Frag):Sp:=fun vs H Q _=>∃(p:Nat)(_:NeZero p)(L:Nat)(v u:V)(m:List (List Int))(i7:List (List Int×List (List Int))),vs=[v,u,.int (p:Nat)]∧TL K H v m∧HT H u (i7.map (·.1))∧gR p∧p≤100000∧L≤100∧(∀r∈m,∀x∈r,0≤x∧x<1000000)∧
 (∀x∈i7,∃la vv,L3 p L m x.1 la vv∧x.2=la.map vv)∧i7.length≤1000∧(i7.flatMap (·.2)).length≤1000∧JY H Q (i7.flatMap (·.2))
theorem DZ:bf ["matrix","rows","prime","found","row"] ["matrix","rows","prime"] (aB m6):=⟨rfl,rfl,rfl,by decide +kernel,rfl,by decide +kernel,by decide +kernel⟩
theorem uB{α β:Type}(l:List α)(f:α→List β)(i:Nat):((l.take i).flatMap f).length≤(l.flatMap f).length:=by
 have:l.flatMap f=(l.take i).flatMap f++(l.drop i).flatMap f:=by rw[←List.flatMap_append,List.take_append_drop]
 rw[this,bC]
 omega
theorem RB{f:Addr}{fd:FuncData}(F:f6 K "split_each" "split_each" m6 f fd)(c1:iJ P w K mg base 3 "split_row" ["matrix","row","prime"] (Fg K)):cF P w K mg base fT 4 f fd ["matrix","rows","prime"] (OU K):=by
 refine F.ok DZ (fun vs H Q E h=>?_) (fun eM A outer s H vs Q E hr h=>?_)
 ·obtain⟨p,_,L,v,u,m,i7,rfl,_⟩:=h
  rfl
 ·obtain⟨p,hz,L,v,u,m,i7,rfl,LC,⟨b,bs,rfl,hb,RC⟩,hp,Cm,hL,Ra,hE,hRl,Wy,k⟩:=h
  refine⟨_,ak (bI (i:=3) DZ.nd rfl (Or.inl rfl) (gd ax))
   (ak (gc bx rfl (d8 (L2.pv 1)) (bE (i:=4) DZ.nd rfl (Or.inl rfl))
    (aA (gz (lA bF j4 j5 pM (L2.pv 3) (ah (bQ c1 hr rfl (ah (L2.pv 0) (ah (L2.pv 4) (ah (L2.pv 2) ax)))) ax)))))
   (aA (a9 (L2.pv 3)))),?_⟩
  obtain⟨a,as,rfl,ha,kf⟩:=id LC
  refine⟨bB _,fun D hD=>?_⟩
  refine⟨_,rfl,b,rfl,⟨_,cy.of (bq hD _ _ hb)⟩,jt (uQ (K:=K) (a:=b) (xs:=bs.map V.ref)) (fun t σ H'=>∃(v4:Option V)(ds:List Addr),σ=[some (.ref a),some (.ref b),some (.int (p:Nat)),some (.ref D),v4]∧a0 H H'∧H' D=some (.lst (ds.map V.ref))∧(∀y∈ds,H y=none∧y≠D)∧cb H' ds ((i7.take t).flatMap (·.2)))
   ⟨none,[],rfl,bq hD,au,by simp,trivial⟩ (fun t σ H'⟨_,_,_,e,_⟩=>cy.of (e _ _ hb)) ?_ ?_⟩
  ·rintro t x σ H2 H3 ht ⟨v4,ds,rfl,e2,o6,RZ,j7⟩ e3 it
   obtain⟨y,hy,rfl⟩:=er it
   obtain⟨r,iF,Wr⟩:=RC.at_ hy
   obtain⟨pr,Hz,rfl⟩: ∃pr,i7[t]? =some pr∧pr.1=r:=by
    rw[ag]at iF
    cases e:i7[t]? with
    |none=>rw[e]at iF;cases iF
    |some pr=>rw[e]at iF;exact⟨pr,rfl,a7 iF⟩
   obtain⟨la,vv,EG,pY⟩:=hE pr (aL Hz)
   have sv:=e2.trans e3
   have xy:=e3 _ _ o6
   refine⟨_,rfl,.inl ⟨rfl,_,cy.of xy⟩,_,rfl,_,rfl,_,rfl,p,hz,L,_,_,m,pr.1,la,vv,rfl,LC.same sv,⟨y,rfl,sv _ _ Wr⟩,hp,Cm,hL,Ra,EG,fun M ms H4 e4 hM sT U5 o9=>?_⟩
   have OQ:ds.length=((i7.take t).flatMap (·.2)).length:=j7.len
   have yw:ms.length=pr.2.length:=by rw[o9.len,pY]
   have htk:(i7.take (t+1)).flatMap (·.2)=(i7.take t).flatMap (·.2)++pr.2:=by
    rw[gh Hz,List.flatMap_append,dj,List.flatMap_nil,dS]
   refine⟨D,M,_,_,rfl,rfl,e4 _ _ xy,U5,?_,some (.ref y),ds++ms,rfl,a0.fO hD (sv.trans e4),?_,?_,?_⟩
   ·rw[ae,ae,OQ,yw]
    have h1:=uB i7 (·.2) (t+1)
    rw[htk,bC]at h1
    have:=bD
    omega
   ·rw[au,bo]
   ·intro z xF
    rcases bP.1 xF with xF|xF
    ·exact RZ z xF
    ·refine⟨cg sv (sT z xF),fun e=>?_⟩
     have:=sT z xF
     rw[e,xy]at this
     cases this
   ·rw[htk]
    refine cb.app (cb.keep (fun z xF o ho=>?_) j7) (cb.keep (fun z xF o ho=>?_) (by rw[pY];exact o9))
    ·rw[aE (RZ z xF).2]
     exact(e3.trans e4) _ _ ho
    ·have hzD:z≠D:=fun e=>by
      have:=sT z xF
      rw[e,xy]at this
      cases this
     rw[aE hzD]
     exact ho
  ·rintro σ H2 ⟨v4,ds,rfl,e2,o6,RZ,j7⟩
   have Ft:(bs.map V.ref).length=i7.length:=by rw[ae,RC.len,ae]
   rw[Ft,gL]at j7
   exact⟨_,rfl,k _ _ _ e2 hD (fun z xF=>(RZ z xF).1) o6 j7⟩
end
end GT
end
section
namespace GT
open PySem PySem.Spec PyProof.Rows L2
open Rd01 (Grp factsOf)
open Ch (ic gR pW mulR lZ qm md gy l0 jU gW L3 Alg)
section
variable{P:Program}{w:World}{K:W.Frag}{mg:Str→Option Value}{base:Heap}
def KL(K:W.Frag)(C:Addr):Sp:=fun vs H Q _=>∃(q:Addr)(g:Grp)(vc:V)(hg:Sp.jO g)(_:NeZero (factsOf g).prime)(es:List (Alg (Sp.gp hg) (factsOf g).prime))(wf:Alg (Sp.gp hg) (factsOf g).prime→Fin (factsOf g).many→Fin (factsOf g).prime),vs=[.ref q]∧Gr K C H q g vc∧g.n≤24∧
 (Sp.classes hg).kg (Sp.jS g (factsOf g).prime) es wf∧∀nZ:List (Alg (Sp.gp hg) (factsOf g).prime),nZ.Perm es→JY H Q (nZ.map (Sp.classes hg).fN)
theorem nD:bf ["group","classes","parts","number"] ["group"] (aB lE):=⟨rfl,rfl,rfl,by decide +kernel,rfl,by decide +kernel,by decide +kernel⟩
theorem Nz(g:Grp)(i j a:Nat):(factsOf g).ways i j a≤g.n:=by
 have:=eB (fun(x:Nat)=>(factsOf g).classOf x==i&&(factsOf g).classOf ((factsOf g).mul ((factsOf g).inverse x) a)==j) (List.range g.n)
 rw[bh]at this
 exact this
theorem NA{f C:Addr}{fd:FuncData}(F:f6 K "all_parts" "all_parts" lE f fd)(T:Txt mg)(R:jK K C)(c1:iJ P w K mg base 4 "split_each" ["matrix","rows","prime"] (OU K))(c2:iJ P w K mg base 2 "class_matrix" ["group","number"] (OT K C)):cF P w K mg base fT 5 f fd ["group"] (KL K C):=by
 refine F.ok nD (fun vs H Q E h=>?_) (fun eM A outer s H vs Q E hr h=>?_)
 ·obtain⟨q,g,vc,hg,_,es,wf,rfl,_⟩:=h
  rfl
 ·obtain⟨q,g,vc,hg,hz,es,wf,rfl,hG,g6,I,k⟩:=h
  have yO:dY 2 _:=hr.mono (by omega)
  refine⟨_,ak (bI (i:=1) nD.nd rfl (Or.inl rfl) (bZ bN (by rfl) T.len bK (ah (bz (L2.pv 0) rfl) ax)))
   (ak (bI (i:=2) nD.nd rfl (Or.inl rfl) (gd (ah (dF Ju (gd (ah bG ax)) (je rfl nD.nd (sW rfl T.range (ah bG (ah (L2.pv 1) ax))) (own:=[("number",3)]) (cB (by show ij ["group","classes","parts","number"] (aB lE) _ _=true;decide +kernel))
     (fun s H C cl fp=>bE (i:=3) nD.nd rfl (Or.inl rfl)) (fun s H C cl fp=>cZ) (fun s H C cl fp=>bG))) ax)))
   (ak (gc bx rfl (sW rfl T.range (ah bG (ah (L2.pv 1) ax))) (bE (i:=3) nD.nd rfl (Or.inl rfl))
    (aA (dR (cJ wu (bZ bN (by rfl) T.len bK (ah (L2.pv 2) ax)) (L2.pv 1) (cW _))
     (aA (bI (i:=2) nD.nd rfl (Or.inl rfl) (bQ c1 hr rfl (ah (bQ c2 yO rfl (ah (L2.pv 0) (ah (L2.pv 3) ax))) (ah (L2.pv 2) (ah (bz (L2.pv 0) rfl) ax)))))) cq)))
   (aA (a9 (L2.pv 2))))),?_⟩
  obtain⟨dx,vP,vI,vN,vM,vS,G⟩:=id hG
  obtain⟨sa,rfl,Rj⟩:=G.sz
  obtain⟨uV,GV,_⟩:=Sp.fF hg g6
  have ZC:=wZ g
  have Ga:=Sp.lz hg
  have WA:=Sp.rG hg
  refine⟨_,rfl,q,C,dx,_,_,rfl,G.ins,R.cl,R.nS,o8 _ _ _ _ _ _ _ _,sa,_,rfl,.inl Rj,?_⟩
  rw[ae,pR]
  have hti:(((factsOf g).many:Int)-1).toNat=(factsOf g).many-1:=by omega
  refine⟨by show 1≤sizeLine;have:=bD;omega,fun o ho=>?_⟩
  have e0:a0 H (upd H o (.lst [V.int 1])):=bq ho
  refine⟨_,rfl,_,_,rfl,by omega,?_⟩
  rw[hti]
  intro M hM
  refine eg pk (by omega) hM ((List.replicate ((factsOf g).many-1) (0:Int)).map V.int) (by simp) ?_ ?_
  ·rintro i x H' Z hi e rfl z
   refine⟨rfl,z _ _ a0.refl ?_⟩
   rw[ag,d5,aO hi]
   rfl
  ·intro H1 e1 hM1
   have Oe:=e1 _ _ (show upd H o (.lst [V.int 1]) o=some (.lst [V.int 1])from au)
   refine⟨o,M,_,_,rfl,rfl,Oe,hM1,by simp;have:=bD;omega,fun b hb=>?_⟩
   have i9:upd H1 b (.lst ([V.int 1]++(List.replicate ((factsOf g).many-1) (0:Int)).map V.int)) b=some (.lst (((Sp.classes hg).fN (1:Alg (Sp.gp hg) (factsOf g).prime)).map V.int)):=by
    rw[au,Sp.IG (Sp.classes hg) uV (Sp.gP hg) WA,a6]
    rfl
   have e2:a0 H (upd H1 b (.lst ([V.int 1]++(List.replicate ((factsOf g).many-1) (0:Int)).map V.int))):=(e0.trans e1).trans (bq hb)
   have YX:H b=none:=cg (e0.trans e1) hb
   generalize upd H1 b (.lst ([V.int 1]++(List.replicate ((factsOf g).many-1) (0:Int)).map V.int))=H2 at i9 e2
   refine⟨by show 1≤sizeLine;have:=bD;omega,fun pt OV=>?_⟩
   have ZD:b≠pt:=aK i9 OV
   have e3:a0 H (upd H2 pt (.lst [V.ref b])):=e2.trans (bq OV)
   have Vd:upd H2 pt (.lst [V.ref b]) pt=some (.lst ([b].map V.ref)):=au
   have BN:upd H2 pt (.lst [V.ref b]) b=some (.lst (((Sp.classes hg).fN (1:Alg (Sp.gp hg) (factsOf g).prime)).map V.int)):=by
    rw[aE ZD]
    exact i9
   have ZE:H pt=none:=cg e2 OV
   generalize upd H2 pt (.lst [V.ref b])=H3 at e3 Vd BN
   refine⟨_,rfl,_,_,rfl,by omega,?_⟩
   rw[hti]
   refine jt wM (fun t σ H'=>∃(pt:Addr)(bs:List Addr)(v3:Option V)(Ps:List (List (Alg (Sp.gp hg) (factsOf g).prime))),σ=[some (.ref q),some (.int ((factsOf g).many:Nat)),some (.ref pt),v3]∧a0 H H'∧H pt=none∧(∀y∈bs,H y=none)∧H' pt=some (.lst (bs.map V.ref))∧cb H' bs (Ps.map fun S=>(Sp.classes hg).fN (Ch.Cl.lg S))∧Ch.Cl.mh es wf (1+t) Ps)
    ⟨pt,[b],none,[es],rfl,e3,ZE,by simpa using YX,Vd,⟨?_,trivial⟩,Ch.Cl.mh.start I (Sp.gP hg) WA⟩ (fun _ _ _ _=>trivial) ?_ ?_
   ·have:Ch.Cl.lg es=(1:Alg (Sp.gp hg) (factsOf g).prime):=I.parts.sum
    show _=some (HO.lst (List.map V.int ((Sp.classes hg).fN (Ch.Cl.lg es))))
    rw[BN,this]
   ·rintro t x σ H4 H5 ht ⟨pt,bs,v3,Ps,rfl,e4,OV,RC,RD,o9,PO⟩ e5 rfl
    have uz:=e4.trans e5
    have RE:=e5 _ _ RD
    have Am:=o9.same e5
    have Ft:bs.length=Ps.length:=by rw[o9.len,ae]
    have aea:=PO.le I
    refine⟨_,rfl,pt,_,rfl,.inl (cy.of RE),_,rfl,_,_,rfl,rfl,_,rfl,?_⟩
    rw[ae,Ft]
    have Ve:1+t<(factsOf g).many:=by omega
    refine gA (fun eI=>?_) (fun Ed=>?_)
    ·have e1t:(1:Int)+(t:Nat)=((1+t:Nat):Int):=by push_cast;rfl
     refine⟨_,rfl,_,rfl,q,g,vc,1+t,?_,hG.same uz,hg,by omega,Ve,fun mt ms H6 e6 hmt sT ZF RF=>?_⟩
     ·rw[e1t]
      rfl
     have PO':=PO.step (k:=1+t) Ve
     have NB:=uz.trans e6
     let i7:List (List Int×List (List Int)):=Ps.map fun S=>((Sp.classes hg).fN (Ch.Cl.lg S),(Ch.Cl.step wf ⟨1+t,Ve⟩ S).map fun S'=>(Sp.classes hg).fN (Ch.Cl.lg S'))
     have Sw:i7.map (·.1)=Ps.map fun S=>(Sp.classes hg).fN (Ch.Cl.lg S):=by
      show(Ps.map _).map _=_
      rw[aU]
      rfl
     have uH:i7.flatMap (·.2)=(Ps.flatMap (Ch.Cl.step wf ⟨1+t,Ve⟩)).map fun S=>(Sp.classes hg).fN (Ch.Cl.lg S):=by
      show(Ps.map _).flatMap _=_
      rw[List.flatMap_map,List.map_flatMap]
     refine⟨_,rfl,_,rfl,q,C,dx,_,_,rfl,NB _ _ G.ins,R.cl,R.nR,kR _ _ _ _ _ _ _ _,(factsOf g).prime,hz,(factsOf g).many,_,_,DX g (1+t),i7,rfl,⟨mt,ms,rfl,cy.of ZF,RF.rows⟩,⟨pt,bs,rfl,e6 _ _ RE,by rw[Sw];exact Am.same e6⟩,uV,by omega,by omega,?_,?_,?_,?_,fun pt' bs' H7 e7 ZG ZH ZI KN=>?_⟩
     ·intro r iF y hy
      obtain⟨c,_,rfl⟩:=ay.1 iF
      obtain⟨j,_,rfl⟩:=ay.1 hy
      have:=Nz g (1+t) j ((factsOf g).reps.getD c 0)
      omega
     ·intro x hx
      obtain⟨S,hS,rfl⟩:=ay.1 hx
      refine⟨_,_,?_,(aU ..)⟩
      have:=I.Xh uV (PO.nd I hS) (PO.sub hS) ⟨1+t,Ve⟩
      rw[Nw hg]at this
      exact this
     ·show(Ps.map _).length≤_
      rw[ae]
      omega
     ·rw[uH,ae]
      have:=PO'.le I
      omega
     ·rw[uH]at KN
      exact⟨pt',bs',some (.int (1+(t:Nat))),_,rfl,NB.trans e7,cg NB ZG,fun y hy=>cg NB (ZH y hy),ZI,KN,PO'⟩
    ·have hPr:Ps.length=(factsOf g).many:=by
      have: ¬((Ps.length:Int)<((factsOf g).many:Int)):=fun h'=>Ed (decide_eq_true h')
      omega
     exact⟨pt,bs,some (.int (1+(t:Nat))),Ps,rfl,uz,OV,RC,RE,Am,PO.next I hPr⟩
   ·rintro σ H4 ⟨pt,bs,v3,Ps,rfl,e4,OV,RC,RD,o9,PO⟩
    rw[show 1+((factsOf g).many-1)=(factsOf g).many by omega]at PO
    obtain⟨p1,p2⟩:=PO.all I
    have WB:(Ps.map fun S=>(Sp.classes hg).fN (Ch.Cl.lg S))=Ps.flatten.map (Sp.classes hg).fN:=by
     rw[p2,aU,←p2]
     apply bM
     intro e _
     show(Sp.classes hg).fN (e+0)=_
     congr 1
     exact Lean.Grind.Semiring.add_zero e
    rw[WB]at o9
    exact⟨_,rfl,k _ p1 _ _ _ e4 OV RC RD o9⟩
def iq(g:Grp):List (List Int):=((factsOf g).chars (factsOf g).prime).map bj
theorem qH: ∀(a b:List Nat),a.length=b.length→oo (bj a) (bj b)=Rd01.rowLess a b
 |[],[],_=>rfl
 |x::a,y::b,h=>by
  have ih:=qH a b (by simpa using h)
  show(decide ((x:Int)<(y:Int))||((x:Int)==(y:Int)&&oo (bj a) (bj b)))=(decide (x<y)||(x==y&&Rd01.rowLess a b))
  rw[ih]
  have h1:decide ((x:Int)<(y:Int))=decide (x<y):=by
   apply decide_eq_decide.2
   omega
  have h2:((x:Int)==(y:Int))=(x==y):=by
   by_cases e:x=y
   ·subst e;simp
   ·rw[cO.2 e,cO.2 (by omega)]
  rw[h1,h2]
 |[],_::_,h=>by simp at h
 |_::_,[],h=>by simp at h
theorem xj: ∀(a b:List Int),oo a b=true→oo b a=false
 |[],[],h=>by cases h
 |[],_::_,_=>rfl
 |_::_,[],h=>by cases h
 |x::a,y::b,h=>by
  have h':(decide (x<y)||(x==y&&oo a b))=true:=h
  show(decide (y<x)||(y==x&&oo b a))=false
  rw[eY]at h'
  rcases h' with h'|h'
  ·have:=of_decide_eq_true h'
   rw[decide_eq_false (by omega),cO.2 (by omega)]
   rfl
  ·rw[aN]at h'
   have e:=eq_of_beq h'.1
   subst e
   rw[xj a b h'.2,decide_eq_false (by omega)]
   simp
theorem xk: ∀(a b:List Int),oo a b=false→oo b a=false→a=b
 |[],[],_,_=>rfl
 |[],_::_,h,_=>by cases h
 |_::_,[],_,h=>by cases h
 |x::a,y::b,h1,h2=>by
  have Hw:(decide (x<y)||(x==y&&oo a b))=false:=h1
  have QG:(decide (y<x)||(y==x&&oo b a))=false:=h2
  rw[Bool.or_eq_false_iff]at Hw QG
  have g1:=of_decide_eq_false Hw.1
  have g2:=of_decide_eq_false QG.1
  have e:x=y:=by omega
  subst e
  have g3:oo a b=false:=by have:=Hw.2;simpa using this
  have g4:oo b a=false:=by have:=QG.2;simpa using this
  rw[xk a b g3 g4]
theorem Ay{g:Grp}(hg:Sp.jO g)(g6:g.n≤24){rs:List (List Int)}(hp:rs.Perm (iq g))(hs:rs.Pairwise fun x y=>oo y x=false):rs=iq g:=by
 obtain⟨uV,GV,_⟩:=Sp.fF hg g6
 have:NeZero (factsOf g).prime:=⟨by have:=uV.1;omega⟩
 obtain⟨c1,c2,c3⟩:=Sp.ky hg (p:=(factsOf g).prime) g6 uV GV (Sp.pI hg g6)
 refine List.Perm.eq_of_pairwise (fun a b _ _ h1 h2=>xk a b h2 h1) hs ?_ hp
 unfold iq
 rw[qQ]
 refine c1.imp_of_mem fun{a b} ha hb h=>?_
 apply xj
 rw[qH a b (by rw[((c3 a).1 ha).len,((c3 b).1 hb).len])]
 exact h
theorem un2{k:Nat}{A:Around}(r:dY k A):A.units+2<cLine:=by
 have:=r.un
 omega
theorem Az{g:Grp}(hg:Sp.jO g)(g6:g.n≤24):(iq g).Nodup:=by
 obtain⟨uV,GV,_⟩:=Sp.fF hg g6
 have:NeZero (factsOf g).prime:=⟨by have:=uV.1;omega⟩
 obtain⟨c1,c2,c3⟩:=Sp.ky hg (p:=(factsOf g).prime) g6 uV GV (Sp.pI hg g6)
 unfold iq List.Nodup
 rw[qQ]
 refine c1.imp_of_mem fun{a b} ha hb h e=>?_
 have h1:oo (bj a) (bj b)=true:=by
  rw[qH a b (by rw[((c3 a).1 ha).len,((c3 b).1 hb).len])]
  exact h
 rw[e,Aw]at h1
 have h2:=Ax _ _ h1
 rw[h1]at h2
 cases h2
def del(H:Hp)(D:Option Addr):Hp:=fun b=>if some b=D then none else H b
theorem kU{H:Hp}{D:Option Addr}{b:Addr}{o:HO}(h:del H D b=some o):some b≠D∧H b=some o:=by
 unfold del at h
 by_cases e:some b=D
 ·rw[aO e]at h;cases h
 ·rw[aI e]at h;exact⟨e,h⟩
theorem tK{H:Hp}{D:Option Addr}{b:Addr}{o:HO}(hb:some b≠D)(h:H b=some o):del H D b=some o:=by
 unfold del
 rw[aI hb]
 exact h
theorem uY{H:Hp}{D:Option Addr}:a0 (del H D) H:=fun b o h=>(kU h).2
theorem xl(H:Hp):del H none=H:=by
 funext b
 unfold del
 rw[aI (by intro h;cases h)]
theorem Cd{H H':Hp}{D:Option Addr}(e:a0 H H'):a0 (del H D) (del H' D):=fun b o h=>tK (kU h).1 (e _ _ (kU h).2)
theorem NC{q:Addr}{H H':Hp}{D:Option Addr}(e:ie q H H'):ie q (del H D) (del H' D):=fun b o h hq=>tK (kU h).1 (e _ _ (kU h).2 hq)
theorem ND{H:Hp}{d:Addr}{o:HO}:a0 (del H (some d)) (upd H d o):=fun b u h=>by
 obtain⟨h1,h2⟩:=kU h
 rw[aE (fun e=>h1 (by rw[e]))]
 exact h2
theorem NF{H H':Hp}{d:Addr}(h:H d=none)(e:a0 H H'):a0 H (del H' (some d)):=fun b u hb=>tK (fun e'=>by
 have:b=d:=a7 e'
 rw[this,h]at hb
 cases hb) (e _ _ hb)
theorem cb.del{H:Hp}{D:Option Addr}: ∀{as:List Addr}{rs:List (List Int)},(∀b∈as,some b≠D)→cb H as rs→cb (del H D) as rs
 |[],[],_,h=>h
 |a::as,r::rs,hd,h=>⟨tK (hd a (by simp)) h.1,cb.del (fun b hb=>hd b (by simp[hb])) h.2⟩
 |[],_::_,_,h=>h.elim
 |_::_,[],_,h=>h.elim
def AA(K:W.Frag)(C:Addr):Sp:=fun vs H Q _=>∃(q:Addr)(g:Grp)(vc:V)(D:Option Addr),vs=[.ref q]∧Gr K C (del H D) q g vc∧Sp.jO g∧g.n≤24∧(vc=.fC∨TL K (del H D) vc (iq g))∧(∀d,D=some d→H d≠none)∧
 ∀(v':V)(H':Hp),ie q H H'→Gr K C (del H' D) q g v'→TL K (del H' D) v' (iq g)→Q v' H'
theorem xm:bf ["group","part"] ["group"] (aB hJ):=⟨rfl,rfl,rfl,by decide +kernel,rfl,by decide +kernel,by decide +kernel⟩
theorem Fu{α β:Type}: ∀(l:List α)(m:List β),l.length=m.length→(l.zip m).map (·.1)=l
 |[],[],_=>rfl
 |a::l,b::m,h=>by rw[p7,a6,Fu l m (by simpa using h)]
 |[],_::_,h=>by simp at h
 |_::_,[],h=>by simp at h
theorem AB{α β:Type}: ∀(l:List α)(m:List β),l.length=m.length→(l.zip m).map (·.2)=m
 |[],[],_=>rfl
 |a::l,b::m,h=>by rw[p7,a6,AB l m (by simpa using h)]
 |[],_::_,h=>by simp at h
 |_::_,[],h=>by simp at h
theorem cb.zip{H:Hp}: ∀{as:List Addr}{rs:List (List Int)},cb H as rs→∀x∈as.zip rs,H x.1=some (.lst (x.2.map V.int))
 |[],[],_,x,hx=>by cases hx
 |a::as,r::rs,h,x,hx=>by
  rw[p7]at hx
  rcases aH.1 hx with rfl|hx
  ·exact h.1
  ·exact cb.zip h.2 x hx
 |[],_::_,h,_,_=>h.elim
 |_::_,[],h,_,_=>h.elim
theorem cb.Ce{H:Hp}: ∀(i7:List (Addr×List Int)),(∀x∈i7,H x.1=some (.lst (x.2.map V.int)))→cb H (i7.map (·.1)) (i7.map (·.2))
 |[],_=>trivial
 |x::i7,h=>⟨h x (by simp),cb.Ce i7 fun y hy=>h y (by simp[hy])⟩
theorem KO{f C:Addr}{fd:FuncData}(F:f6 K "characters_of" "characters_of" hJ f fd)(T2:Txt2 mg)(R:jK K C)(c1:iJ P w K mg base 5 "all_parts" ["group"] (KL K C))(c2:iJ P w K mg base 2 "character_of_part" ["group","part"] (KJ K C)):cF P w K mg base fT 6 f fd ["group"] (AA K C):=by
 refine F.ok xm (fun vs H Q E h=>?_) (fun eM A outer s H vs Q E hr h=>?_)
 ·obtain⟨q,g,vc,Dd,rfl,_⟩:=h
  rfl
 ·obtain⟨q,g,vc,Dd,rfl,ZJ,hg,g6,OW,hDd,k⟩:=h
  have yO:dY 2 _:=hr.mono (by omega)
  have hG:=ZJ.same uY
  refine⟨_,ak (dR (zL (zK (bz (L2.pv 0) rfl)))
    (aA (fu (L2.pv 0) (bZ (Ca (un2 hr)) (by rfl) T2.sorted r8 (ah (je rfl xm.nd (d8 (bQ c1 hr rfl (ah (L2.pv 0) ax))) (own:=[("part",1)]) (cB (by show ij ["group","part"] (aB hJ) _ _=true;decide +kernel))
     (fun s H C cl fp=>bE (i:=1) xm.nd rfl (Or.inl rfl)) (fun s H C cl fp=>cZ)
     (te:=rO (KJ K C) [] E0 _) (fun s H _ cl fp=>bQ c2 yO rfl (ah (L2.pv 0) (ah (L2.pv 1) ax)))) ax)) rfl)) cq)
   (aA (a9 (bz (L2.pv 0) rfl))),?_⟩
  obtain⟨dx,vP,vI,vN,vM,vS,Gd⟩:=id ZJ
  have G:=Gd.same (H':=H) uY
  refine⟨_,rfl,q,C,dx,_,_,rfl,G.ins,R.cl,R.nC,wY _ _ _ _ _ _ _ _,_,rfl,?_⟩
  refine gA (fun yc=>?_) (fun Ii=>?_)
  ·have PZ:vc=.fC:=of_decide_eq_true yc
   subst PZ
   obtain⟨uV,GV,_⟩:=Sp.fF hg g6
   have hz:NeZero (factsOf g).prime:=⟨by have:=uV.1;omega⟩
   have pV:=Sp.pI hg g6
   obtain⟨es,wf,I⟩:=(Sp.classes hg).Bh (p:=(factsOf g).prime) uV hg.pos g6 (by omega) pV (Sp.jS g (factsOf g).prime) (Sp.jx hg uV (by omega))
   obtain⟨dg,cr,MZ,uj⟩:=Sp.wg hg g6 uV GV pV I
   have Ga:=Sp.lz hg
   refine⟨_,rfl,q,g,.fC,hg,hz,es,wf,rfl,hG,g6,I,fun nZ L9 pt bs H1 e1 OV RC Vg wX=>?_⟩
   have MJ:nZ.length=(factsOf g).many:=by rw[L9.length_eq,I.len]
   have Ft:bs.length=nZ.length:=by rw[wX.len,ae]
   refine⟨pt,rfl,⟨_,cy.of Vg⟩,fun D hD=>r6 (iG (cy.of (K:=K) Vg)) (by rw[ae];omega) hD (nZ.map fun e=>bj (cr e)) (by simp[Ft]) ?_ ?_⟩
   ·intro i x H' Z hi e it z
    obtain⟨b,hb,rfl⟩:=er it
    obtain⟨r,iF,Fh⟩:=wX.at_ hb
    obtain⟨ee,Ib,rfl⟩: ∃ee,nZ[i]? =some ee∧r=(Sp.classes hg).fN ee:=by
     rw[ag]at iF
     cases e5:nZ[i]? with
     |none=>rw[e5]at iF;cases iF
     |some ee=>rw[e5]at iF;exact⟨ee,rfl,(a7 iF).symm⟩
    obtain⟨d1,d2,d3,d4⟩:=MZ ee (L9.mem_iff.1 (aL Ib))
    refine⟨rfl,_,rfl,_,rfl,q,g,.fC,_,hz,(Sp.classes hg).fN ee,dg ee,cr ee,rfl,hG.same (e1.trans e),hg,g6,⟨b,rfl,cy.of (e _ _ Fh)⟩,(Sp.classes hg).me ee,(Sp.classes hg).wb ee,d1,d2,d3,d4,fun y H2 e2 hy Lp=>z y _ H2 e2 hy (by rw[ag,Ib];rfl) Lp⟩
   ·intro H2 as e2 o6 qC Gv _
    have Dz:as.length=(nZ.map fun e=>bj (cr e)).length:=qC.len
    have aeh:as.length=nZ.length:=by rw[Dz,ae]
    have VV:=qC.zip
    obtain⟨c1',c2',c3'⟩:=Sp.ky hg (p:=(factsOf g).prime) g6 uV GV pV
    have hpc:=uj nZ L9
    have hpz:(nZ.map fun e=>bj (cr e)).Perm (iq g):=by
     have h2:=hpc.map bj
     rw[aU]at h2
     exact h2
    have ZK:((as.zip (nZ.map fun e=>bj (cr e))).map (·.2)).Nodup:=by
     rw[AB _ _ Dz]
     exact hpz.nodup_iff.2 (Az hg g6)
    refine⟨D,as.zip (nZ.map fun e=>bj (cr e)),rfl,?_,fun x hx=>cy.of (VV x hx),?_,ZK,fun qG S Hz KP hS=>?_⟩
    ·have:((as.zip (nZ.map fun e=>bj (cr e))).map fun x=>V.ref x.1)=as.map V.ref:=by
      have h1:=ba (List.map V.ref) (Fu as (nZ.map fun e=>bj (cr e)) Dz)
      rw[aU]at h1
      exact h1
     rw[this]
     exact cy.of o6
    ·rw[ow,Dz]
     simp
     omega
    ·have kf:qG.map (·.2)=iq g:=by
      apply Ay hg g6
      ·have h1:=Hz.map (·.2)
       rw[AB _ _ Dz]at h1
       refine h1.trans ?_
       have h2:=hpc.map bj
       rw[aU]at h2
       exact h2
      ·rw[qQ]
       exact KP
     have qB:=e1.trans e2
     have Zi:q≠S:=aK (qB _ _ G.ins) hS
     have uH:cb H2 (qG.map (·.1)) (qG.map (·.2)):=cb.Ce qG fun x hx=>VV x (Hz.mem_iff.1 hx)
     rw[kf]at uH
     have WC:a0 H (upd H2 S (.lst (qG.map fun x=>V.ref x.1))):=qB.trans (bq hS)
     have hS3:upd H2 S (.lst (qG.map fun x=>V.ref x.1)) S=some (.lst ((qG.map (·.1)).map V.ref)):=by
      rw[au,aU]
      rfl
     have hp3:cb (upd H2 S (.lst (qG.map fun x=>V.ref x.1))) (qG.map (·.1)) (iq g):=uH.same (bq hS)
     generalize upd H2 S (.lst (qG.map fun x=>V.ref x.1))=H3 at WC hS3 hp3
     refine⟨_,rfl,q,C,dx,_,rfl,WC _ _ G.ins,R.cl,R.nC,(by show 8<1000;decide),?_⟩
     have D0:upd H3 q (.ins C dx (et "characters" (.ref S) (GU g.n (factsOf g).prime vP vI vN vM vS .fC))) q=some (.ins C dx (GU g.n (factsOf g).prime vP vI vN vM vS (.ref S))):=au
     have bt:ie q H3 (upd H3 q (.ins C dx (et "characters" (.ref S) (GU g.n (factsOf g).prime vP vI vN vM vS .fC)))):=ie.upd
     generalize upd H3 q (.ins C dx (et "characters" (.ref S) (GU g.n (factsOf g).prime vP vI vN vM vS .fC)))=H4 at D0 bt
     have Vh:=Cd (D:=Dd) WC
     have Sx:=NC (D:=Dd) bt
     have JX:=(kU Gd.ins).1
     have CM:=Vh _ _ Gd.ins
     have G3:=Gd.same Vh
     have df: ∀y,H y=none→some y≠Dd:=fun y hy e5=>hDd y e5.symm hy
     have hSD:some S≠Dd:=df S (cg qB hS)
     have hrD: ∀b∈qG.map (·.1),some b≠Dd:=by
      intro b hb
      obtain⟨x,hx,rfl⟩:=ay.1 hb
      exact df _ (cg e1 (Gv x.1 (iy (Hz.mem_iff.1 hx)).1).1)
     have Zb:TL K (del H4 Dd) (.ref S) (iq g):=Sx.tl CM ⟨S,_,rfl,cy.of (tK hSD hS3),(cb.del hrD hp3).rows⟩
     refine⟨_,rfl,q,C,dx,_,_,rfl,D0,R.cl,R.nC,wY _ _ _ _ _ _ _ _,k _ _ ?_ ⟨dx,vP,vI,vN,vM,vS,tK JX D0,Sx.tl CM G3.pr,Sx.il CM G3.iv,Sx.il CM G3.nm,Sx.tl CM G3.mb,Sx.il CM G3.sz⟩ Zb⟩
     exact fun b o hb DA=>bt b o (WC _ _ hb) DA
  ·have hv:TL K (del H Dd) vc (iq g):=by
    rcases OW with h1|h1
    ·subst h1
     exact absurd rfl Ii
    ·exact h1
   exact⟨_,rfl,q,C,dx,_,_,rfl,G.ins,R.cl,R.nC,wY _ _ _ _ _ _ _ _,k _ _ (fun b o hb _=>hb) ZJ hv⟩
end
end GT
end
section
namespace GT
open PySem PySem.Spec PyProof.Rows L2
open Rd01 (Grp factsOf)
section
variable{P:Program}{w:World}{K:W.Frag}{mg:Str→Option Value}{base:Heap}
structure tL(g:Grp)(ms made:List Nat):Prop where
 nd:made.Nodup
 sub: ∀m∈ms,m∈made
 lt: ∀a∈made,a<g.n
 gen: ∀T:Nat→Prop,(∀m∈ms,T m)→(∀x m,x<g.n→T x→m∈ms→T ((factsOf g).mul x m))→∀a∈made,T a
def KQ(K:W.Frag):Sp:=fun vs H Q _=>∃(g:Grp)(v u:V)(ms:List Nat),vs=[v,u]∧TL K H v (Sp.cI g)∧IL K H u (bj ms)∧Sp.jO g∧g.n≤64∧ms.Nodup∧(∀m∈ms,m<g.n)∧
 ∀made:List Nat,tL g ms made→(∀a∈made,∀m∈ms,(factsOf g).mul a m∈made)→tD H Q (bj made)
theorem lJ:bf ["products","makers","made","known","place","maker","product","thing"] ["products","makers"] (aB m7):=⟨rfl,rfl,rfl,by decide +kernel,rfl,by decide +kernel,by decide +kernel⟩
def lY(g:Grp)(made:List Nat):List V:=(List.range g.n).map fun a=>V.bl (decide (a∈made))
theorem ir(g:Grp)(made:List Nat):(lY g made).length=g.n:=by simp[lY]
theorem mF(g:Grp)(made:List Nat){a:Nat}(ha:a<g.n):(lY g made)[a]? =some (V.bl (decide (a∈made))):=by
 rw[lY,ag,aX ha]
 rfl
theorem D1{g:Grp}{made:List Nat}{a:Nat}(ha:a<g.n):(lY g made).set a (V.bl true)=lY g (made++[a]):=by
 apply DK (by rw[ir,ir]) (by rw[ir];exact ha)
 ·rw[mF g _ ha]
  simp
 ·intro i hi
  by_cases tW:i<g.n
  ·rw[mF g _ tW,mF g _ tW]
   congr 2
   apply decide_eq_decide.2
   simp[hi]
  ·rw[cN (by rw[ir];omega),cN (by rw[ir];omega)]
theorem Cf{g:Grp}{ms made:List Nat}(M:tL g ms made):made.length≤g.n:=by
 have:=Ch.a8 (m:=List.range g.n) M.nd (fun a ha=>by simpa using M.lt a ha)
 rwa [bh]at this
theorem KR(l:List Nat)(a:Nat):Sf (.int ((a:Nat):Int)) ((bj l).map V.int)=decide (a∈l):=by
 rw[BL]
 cases e:decide (a∈l)with
 |true=>
  rw[cS]
  exact⟨((a:Nat):Int),ay.2 ⟨a,of_decide_eq_true e,rfl⟩,by simp⟩
 |false=>
  rw[List.any_eq_false]
  intro x hx Y2
  obtain⟨b,hb,rfl⟩:=ay.1 hx
  have uG:b=a:=by have:=eq_of_beq Y2;omega
  subst uG
  exact(of_decide_eq_false e) hb
theorem NG{f:Addr}{fd:FuncData}(F:f6 K "all_made" "all_made" m7 f fd)(T:Txt mg):cF P w K mg base fT 1 f fd ["products","makers"] (KQ K):=by
 refine F.ok lJ (fun vs H Q E h=>?_) (fun eM A outer s H vs Q E hr h=>?_)
 ·obtain⟨g,v,u,ms,rfl,_⟩:=h
  rfl
 ·obtain⟨g,v,u,ms,rfl,⟨a,as,rfl,ha,kf⟩,⟨b,rfl,hb⟩,hg,xw,xD,Ra,k⟩:=h
  refine⟨_,ak (bI (i:=2) lJ.nd rfl (Or.inl rfl) (fR zX (by rfl) T.list boot_list (ah (L2.pv 1) ax)))
   (ak (gf rfl lJ.nd (i:=3) rfl rfl (by rfl) (fQ rfl T.range (ah (bZ bN (by rfl) T.len bK (ah (L2.pv 0) ax)) ax)) (own:=[("thing",7)]) (cB (by show ij ["products","makers","made","known","place","maker","product","thing"] (aB m7) _ _=true;decide +kernel))
    (fun s H C cl fp=>bE (i:=7) lJ.nd rfl (Or.inl rfl)) (fun s H C cl fp=>cZ) (fun s H C cl fp=>rN (show rM _ _ (XY K false)from yu) (L2.pv 7) (L2.pv 1) (by with_unfolding_all rfl)))
   (ak (bI (i:=4) lJ.nd rfl (Or.inl rfl) bG)
   (ak (iT bx (cJ wu (L2.pv 4) (bZ bN (by rfl) T.len bK (ah (L2.pv 2) ax)) (cW _))
    (ak (gc bx rfl (d8 (L2.pv 1)) (bE (i:=5) lJ.nd rfl (Or.inl rfl))
     (ak (bI (i:=6) lJ.nd rfl (Or.inl rfl) (cK bH (cK bH (L2.pv 0) (cK bH (L2.pv 2) (L2.pv 4) (fun _ _=>rfl)) (fun _ _=>rfl)) (L2.pv 5) (fun _ _=>rfl)))
     (aA (dR (iR (fH (cK bH (L2.pv 3) (L2.pv 6) (fun _ _=>rfl))))
      (ak (De qc (Dc (L2.pv 3) (L2.pv 6) set_list))
      (aA (gz (lA bF dN dO jn (L2.pv 2) (ah (L2.pv 6) ax))))) cq))))
    (aA (sV (i:=4) lJ.nd rfl (Or.inl rfl) bG qr))))
   (aA (a9 (L2.pv 2)))))),?_⟩
  have hlen:as.length=g.n:=by rw[kf.len,Sp.ek]
  have oj:(as.map V.ref).length=g.n:=by rw[ae,hlen]
  have rZ:(((as.map V.ref).length:Nat):Int).toNat=g.n:=by rw[oj];exact aY g.n
  have ael:ms.length≤g.n:=by
   have:=Ch.a8 (m:=List.range g.n) xD (fun a ha=>by simpa using Ra a ha)
   rwa [bh]at this
  refine⟨_,rfl,b,_,rfl,.inl hb,fun L hL=>?_⟩
  have e1:a0 H (upd H L (.lst ((bj ms).map V.int))):=bq hL
  have ZL:upd H L (.lst ((bj ms).map V.int)) L=some (.lst ((bj ms).map V.int)):=au
  generalize upd H L (.lst ((bj ms).map V.int))=H1 at e1 ZL
  refine⟨_,rfl,a,_,rfl,.inl (e1.seq ha),_,rfl,by rw[oj];omega,by rw[oj];omega,?_⟩
  rw[rZ]
  intro D hD
  refine eg pk (by omega) hD (lY g ms) (by rw[ir]) ?_ ?_
  ·rintro i x H' Z hi e rfl z
   rw[fj]
   refine⟨rfl,_,rfl,_,rfl,b,_,rfl,.inl ((e1.trans e).seq hb),rfl,tw _,z _ _ a0.refl ?_⟩
   rw[mF g ms hi]
   show _=some (V.bl (Sf (.int ((i:Nat):Int)) ((bj ms).map V.int)))
   rw[KR]
  ·intro H2 e2 o6
   have ZM:L≠D:=aK ZL hD
   have Vi:H D=none:=cg e1 hD
   have qB:=e1.trans e2
   refine⟨fun mm σ H'=>∃(pl:Nat)(made:List Nat)(v5 v6:Option V),mm=g.n-pl∧σ=[some (.ref a),some (.ref b),some (.ref L),some (.ref D),some (.int (pl:Nat)),v5,v6,none]∧a0 H H'∧H' L=some (.lst ((bj made).map V.int))∧H' D=some (.lst (lY g made))∧tL g ms made∧pl≤made.length∧∀i,i<pl→∀m∈ms,(factsOf g).mul (made.getD i 0) m∈made,
    ⟨_,0,ms,none,none,rfl,rfl,qB,e2 _ _ ZL,o6,⟨xD,fun m hm=>hm,Ra,fun T h1 _=>h1⟩,bB _,fun i hi=>absurd hi (cY _)⟩,?_⟩
   rintro mm σ H3 ⟨pl,made,v5,v6,rfl,rfl,e3,ZN,xy,M,n9,OX⟩
   have ZO:=Cf M
   refine⟨_,rfl,_,rfl,L,_,rfl,.inl (cy.of ZN),_,_,rfl,rfl,_,rfl,?_⟩
   rw[ae,bj,ae]
   refine gA (fun eI=>?_) (fun Ed=>?_)
   ·have Ag:pl<made.length:=by have:=of_decide_eq_true eI;omega
    refine⟨fun σ' H'=>∃(made:List Nat)(v5 v6:Option V),σ'=[some (.ref a),some (.ref b),some (.ref L),some (.ref D),some (.int ((pl+1:Nat):Int)),v5,v6,none]∧a0 H H'∧H' L=some (.lst ((bj made).map V.int))∧H' D=some (.lst (lY g made))∧tL g ms made∧pl+1≤made.length∧∀i,i<pl+1→∀m∈ms,(factsOf g).mul (made.getD i 0) m∈made,?_,?_⟩
    ·rintro σ' H' ⟨Vj,v5',v6',rfl,q1,q2,q3,q4,q5,q6⟩
     exact⟨g.n-(pl+1),by omega,pl+1,Vj,v5',v6',rfl,rfl,q1,q2,q3,q4,q5,q6⟩
    ·refine⟨_,rfl,b,rfl,⟨_,e3.seq hb⟩,jt (uQ (K:=K) (a:=b) (xs:=(bj ms).map V.int)) (fun t σ H'=>∃(more:List Nat)(v5 v6:Option V),σ=[some (.ref a),some (.ref b),some (.ref L),some (.ref D),some (.int (pl:Nat)),v5,v6,none]∧a0 H H'∧H' L=some (.lst ((bj (made++more)).map V.int))∧H' D=some (.lst (lY g (made++more)))∧tL g ms (made++more)∧∀m∈ms.take t,(factsOf g).mul (made.getD pl 0) m∈made++more)
      ⟨[],v5,v6,rfl,e3,by rw[dS];exact ZN,by rw[dS];exact xy,by rw[dS];exact M,by simp⟩ (fun t σ H'⟨_,_,_,_,e,_⟩=>e.seq hb) ?_ ?_⟩
     ·rintro t x σ H4 H5 ht ⟨more,v5,v6,rfl,e4,ZP,yN,M4,Hx⟩ e5 it
      obtain⟨m,hm,rfl⟩:=kP it
      have hmm:=aL hm
      have Ga:=Ra m hmm
      have uz:=e4.trans e5
      have WD:=e5 _ _ ZP
      have ZQ:=e5 _ _ yN
      have ZR:(made++more).getD pl 0=made.getD pl 0:=by
       rw[af,af,dE Ag]
      have PL:made.getD pl 0∈made:=by
       rw[af,aj Ag]
       exact cn Ag
      have ZS:=M.lt _ PL
      obtain⟨c,hc,r,MZ,_,hcv⟩:=qD hg kf ZS
      have NH:=Sp.jQ hg ZS Ga
      refine⟨_,rfl,_,rfl,_,rfl,L,_,_,_,rfl,rfl,cy.of WD,at_of (j:=pl) rfl (yU (by rw[bC];omega)),a,_,_,_,rfl,rfl,uz.seq ha,at_of (j:=made.getD pl 0) (v:=V.ref c) (by rw[ZR]) (by rw[ag,hc];rfl),_,rfl,c,_,_,_,rfl,rfl,uz.seq MZ,at_of (j:=m) rfl (hcv _ Ga),?_⟩
      refine⟨_,rfl,_,rfl,D,_,_,_,rfl,rfl,cy.of ZQ,at_of (j:=(factsOf g).mul (made.getD pl 0) m) rfl (mF g _ NH),_,rfl,?_⟩
      have P2: ∀T:Nat→Prop,(∀m∈ms,T m)→(∀x m,x<g.n→T x→m∈ms→T ((factsOf g).mul x m))→T ((factsOf g).mul (made.getD pl 0) m):=fun T h1 h2=>h2 _ m ZS (M.gen T h1 h2 _ PL) hmm
      refine gA (fun DJ=>?_) (fun hold=>?_)
      ·have ZT:(factsOf g).mul (made.getD pl 0) m∉made++more:=by
        intro tW
        rw[decide_eq_true tW]at DJ
        cases DJ
       have M5:tL g ms (made++(more++[(factsOf g).mul (made.getD pl 0) m])):=by
        rw[←k7]
        refine⟨?_,fun m hm=>fV _ (M4.sub m hm),?_,?_⟩
        ·rw[qM]
         refine⟨M4.nd,by simp,fun y hy z hz=>?_⟩
         rw[aQ]at hz
         subst hz
         intro e
         rw[e]at hy
         exact ZT hy
        ·intro y hy
         rcases bP.1 hy with hy|hy
         ·exact M4.lt y hy
         ·rw[aQ]at hy
          rw[hy]
          exact NH
        ·intro T h1 h2 y hy
         rcases bP.1 hy with hy|hy
         ·exact M4.gen T h1 h2 y hy
         ·rw[aQ]at hy
          rw[hy]
          exact P2 T h1 h2
       have hl5:=Cf M4
       refine⟨_,rfl,_,rfl,D,_,_,(factsOf g).mul (made.getD pl 0) m,rfl,rfl,ZQ,by rw[ir];exact uT NH,?_⟩
       refine⟨_,rfl,.inl ⟨rfl,_,cy.of (by rw[aE ZM];exact WD)⟩,_,rfl,L,_,_,rfl,rfl,(by rw[aE ZM];exact WD),?_,more++[(factsOf g).mul (made.getD pl 0) m],some (.int (m:Nat)),some (.int ((factsOf g).mul (made.getD pl 0) m:Nat)),rfl,a0.fO hL (a0.fO Vi uz),?_,?_,M5,?_⟩
       ·rw[ae,bj,ae]
        have:=bD
        omega
       ·rw[au]
        simp[bj]
       ·rw[aE ZM.symm,au,D1 NH,k7]
       ·intro y hy
        rw[gh hm]at hy
        rw[←k7]
        rcases bP.1 hy with hy|hy
        ·exact fV _ (Hx y hy)
        ·rw[aQ]at hy
         rw[hy]
         simp
      ·have tW:(factsOf g).mul (made.getD pl 0) m∈made++more:=by
        apply ai
        intro hn
        apply hold
        rw[decide_eq_false hn]
        rfl
       refine⟨more,some (.int (m:Nat)),some (.int ((factsOf g).mul (made.getD pl 0) m:Nat)),rfl,uz,WD,ZQ,M4,?_⟩
       intro y hy
       rw[gh hm]at hy
       rcases bP.1 hy with hy|hy
       ·exact Hx y hy
       ·rw[aQ]at hy
        rw[hy]
        exact tW
     ·rintro σ H4 ⟨more,v5,v6,rfl,e4,ZP,yN,M4,Hx⟩
      have BK:ms.take ((bj ms).map V.int).length=ms:=fh (by simp[bj])
      rw[BK]at Hx
      refine⟨_,rfl,_,_,rfl,rfl,made++more,v5,v6,?_,e4,ZP,yN,M4,by rw[bC];omega,?_⟩
      ·push_cast
       rfl
      ·intro i hi m hm
       by_cases hip:i=pl
       ·subst hip
        have:(made++more).getD i 0=made.getD i 0:=by
         rw[af,af,dE Ag]
        rw[this]
        exact Hx m hm
       ·have:(made++more).getD i 0=made.getD i 0:=by
         rw[af,af,dE (by omega)]
        rw[this]
        exact fV _ (OX i (by omega) m hm)
   ·have aeq:made.length≤pl:=by
     have: ¬((pl:Int)<(made.length:Int)):=fun h'=>Ed (decide_eq_true h')
     omega
    refine⟨_,rfl,k made M ?_ _ _ e3 hL ZN⟩
    intro y hy m hm
    obtain⟨i,hi⟩:=d6 hy
    have xN:=(aJ.mp hi).1
    have:=OX i (by omega) m hm
    rw[af,hi]at this
    exact this
def Fv(K:W.Frag)(C:Addr):Sp:=fun vs H Q _=>∃(q:Addr)(g:Grp)(vc:V),vs=[.ref q]∧Gr K C H q g vc∧Sp.jO g∧g.n≤24∧∀H',a0 H H'→Q (.bl (factsOf g).solvable) H'
theorem pb:bf ["group","things","makers","fewer"] ["group"] (aB lT):=⟨rfl,rfl,rfl,by decide +kernel,rfl,by decide +kernel,by decide +kernel⟩
theorem yW{l m:List Nat}(hl:l.Nodup)(hm:m.Nodup)(h: ∀a,a∈l↔a∈m):l.length=m.length:=(Ch.cX hl hm h).length_eq
theorem D2{ms:List Int}(h: ∀x∈ms,0≤x):ms=bj (ms.map Int.toNat):=by
 unfold bj
 rw[aU]
 have:ms.map id=ms.map ((fun(x:Nat)=>(x:Int))∘Int.toNat):=by
  apply bM
  intro x hx
  have:=h x hx
  show x=((x.toNat:Nat):Int)
  omega
 rw[←this,List.map_id]
theorem KS{f C:Addr}{fd:FuncData}(F:f6 K "comes_apart" "comes_apart" lT f fd)(T:Txt mg)(T2:Txt2 mg)(R:jK K C)(c1:iJ P w K mg base 2 "commutators" ["group","things"] (DO K C))(c2:iJ P w K mg base 1 "all_made" ["products","makers"] (KQ K)):cF P w K mg base fT 3 f fd ["group"] (Fv K C):=by
 refine F.ok pb (fun vs H Q E h=>?_) (fun eM A outer s H vs Q E hr h=>?_)
 ·obtain⟨q,g,vc,rfl,_⟩:=h
  rfl
 ·obtain⟨q,g,vc,rfl,hG,hg,g6,k⟩:=h
  have tF:dY 1 _:=hr.mono (by omega)
  refine⟨_,ak (bI (i:=1) pb.nd rfl (Or.inl rfl) (fR (lF rfl) (by rfl) T.list boot_list (ah (fR pP (by rfl) T.range HC (ah (bz (L2.pv 0) rfl) ax)) ax)))
   (ak (iT bx (cJ Oq (bZ bN (by rfl) T.len bK (ah (L2.pv 1) ax)) bG (cW _))
    (ak (bI (i:=2) pb.nd rfl (Or.inl rfl) (bZ (show jI _ _ (Cb P w)from DV rfl) (by rfl) T2.sorted r8 (ah (fR (show jI _ _ (OR K P w)from Nv rfl) (by rfl) T2.set GL (ah (bQ c1 hr rfl (ah (L2.pv 0) (ah (L2.pv 1) ax))) ax)) ax)))
    (ak (bI (i:=3) pb.nd rfl (Or.inl rfl) (bQ c2 tF rfl (ah (bz (L2.pv 0) rfl) (ah (L2.pv 2) ax))))
    (ak (dR (cJ iE (bZ bN (by rfl) T.len bK (ah (L2.pv 3) ax)) (bZ bN (by rfl) T.len bK (ah (L2.pv 1) ax)) (cW _)) (aA (a9 qc)) cq)
    (aA (bI (i:=1) pb.nd rfl (Or.inl rfl) (L2.pv 3)))))))
   (aA (a9 qc))),?_⟩
  obtain⟨dx,vP,vI,vN,vM,vS,G⟩:=id hG
  refine⟨_,rfl,q,C,dx,_,_,rfl,G.ins,R.cl,R.nO,jL _ _ _ _ _ _ _ _,_,rfl,fun p hp=>?_⟩
  refine⟨p,0,_,rfl,au,kr 0,p6 _,by omega,fun l hl=>?_⟩
  rw[DD]
  have e1:a0 H (upd (upd H p (.AH 0 (g.n:Nat))) l (.lst ((kM g.n).map V.int))):=(bq hp).trans (bq hl)
  have Cn:upd (upd H p (.AH 0 (g.n:Nat))) l (.lst ((kM g.n).map V.int)) l=some (.lst ((bj (List.range g.n)).map V.int)):=au
  generalize upd (upd H p (.AH 0 (g.n:Nat))) l (.lst ((kM g.n).map V.int))=H1 at e1 Cn
  refine⟨fun mm σ H'=>∃(l:Addr)(ts ll:List Nat)(kk:Nat)(v2 v3:Option V),mm=ll.length∧σ=[some (.ref q),some (.ref l),v2,v3]∧a0 H H'∧H' l=some (.lst ((bj ts).map V.int))∧ts.Nodup∧(∀a,a∈ts↔a∈ll)∧Sp.Sub g ll∧ll.length≤kk∧(factsOf g).solvable=(Rd01.again (factsOf g).derived kk ll==[0]),
   ⟨_,l,List.range g.n,List.range g.n,g.n,none,none,rfl,rfl,e1,Cn,da,fun a=>Iff.rfl,Sp.Md hg,by simp,rfl⟩,?_⟩
  rintro mm σ H2 ⟨l,ts,ll,kk,v2,v3,rfl,rfl,e2,oE,xD,i8,S,S7,RH⟩
  have LC:ts.length=ll.length:=yW xD S.canon.nodup i8
  have aer:=S.canon.len
  have rZ: ∀t∈ts,t<g.n:=fun t ht=>S.canon.2 t ((i8 t).1 ht)
  refine⟨_,rfl,l,_,rfl,.inl (cy.of oE),_,_,rfl,rfl,_,rfl,?_⟩
  have oj:((bj ts).map V.int).length=ts.length:=by rw[ae,bj,ae]
  rw[oj]
  refine gA (fun QU=>?_) (fun hle=>?_)
  ·have MQ:1<ts.length:=by have:=of_decide_eq_true QU;omega
   refine⟨fun σ' H'=>∃(l:Addr)(Vk OY:List Nat)(kk:Nat)(v2 v3:Option V),OY.length<ll.length∧σ'=[some (.ref q),some (.ref l),v2,v3]∧a0 H H'∧H' l=some (.lst ((bj Vk).map V.int))∧Vk.Nodup∧(∀a,a∈Vk↔a∈OY)∧Sp.Sub g OY∧OY.length≤kk∧(factsOf g).solvable=(Rd01.again (factsOf g).derived kk OY==[0]),?_,?_⟩
   ·rintro σ' H' ⟨l',Vk,OY,kk',v2',v3',q0,rfl,q1,q2,q3,q4,q5,q6,q7⟩
    exact⟨OY.length,q0,l',Vk,OY,kk',v2',v3',rfl,rfl,q1,q2,q3,q4,q5,q6,q7⟩
   ·refine⟨_,rfl,_,rfl,q,g,vc,_,ts,rfl,hG.same e2,hg,⟨l,rfl,cy.of oE⟩,rZ,by omega,fun cl H3 e3 lO RI=>?_⟩
    have sv:=e2.trans e3
    have ZU:(qd g ts).length≤1000:=by
     rw[qd,yP]
     have:ts.length*ts.length≤24*24:=ja (by omega) (by omega)
     omega
    refine⟨cl,_,rfl,cy.of RI,by rw[bj,ae];exact ZU,fun st Lu=>?_⟩
    have KU: ∀a∈qd g ts,a<g.n:=by
     intro a ha
     obtain⟨x,hx,ha⟩:=dZ.1 ha
     obtain⟨y,hy,rfl⟩:=ay.1 ha
     exact Sp.Mc hg (rZ x hx) (rZ y hy)
    refine⟨st,_,rfl,au,?_,fun sl NI sT KP Sg=>?_⟩
    ·intro x hx
     obtain⟨a,ha,rfl⟩:=ay.1 hx
     have:=KU a ha
     omega
    have e4:a0 H (upd (upd H3 st (DU P w st (bj (qd g ts)))) sl (.lst (NI.map V.int))):=(sv.trans (bq Lu)).trans (bq Sg)
    have RJ: ∀x∈NI,0≤x:=by
     intro x hx
     obtain⟨a,ha,rfl⟩:=ay.1 ((sT x).1 hx)
     omega
    have ZV:=D2 RJ
    have RK:upd (upd H3 st (DU P w st (bj (qd g ts)))) sl (.lst (NI.map V.int)) sl=some (.lst ((bj (NI.map Int.toNat)).map V.int)):=by
     rw[←ZV]
     exact au
    have hl4:upd (upd H3 st (DU P w st (bj (qd g ts)))) sl (.lst (NI.map V.int)) l=some (.lst ((bj ts).map V.int)):=((bq Lu).trans (bq Sg)) _ _ (e3 _ _ oE)
    have KW: ∀a,a∈NI.map Int.toNat↔a∈qd g ts:=by
     intro a
     rw[ay]
     constructor
     ·rintro⟨x,hx,rfl⟩
      obtain⟨b,hb,rfl⟩:=ay.1 ((sT x).1 hx)
      rw[aY]
      exact hb
     ·intro ha
      exact⟨(a:Int),(sT _).2 (ay.2 ⟨a,ha,rfl⟩),aY a⟩
    have Vl:(NI.map Int.toNat).Nodup:=by
     apply Ch.cR (KP.imp fun h=>Int.ne_of_lt h)
     intro a ha b hb e
     have:=RJ a ha
     have:=RJ b hb
     omega
    generalize upd (upd H3 st (DU P w st (bj (qd g ts)))) sl (.lst (NI.map V.int))=H4 at e4 RK hl4
    generalize NI.map Int.toNat=ms at RK KW Vl
    obtain⟨pa,as,rfl,HB,has⟩:=G.pr
    refine⟨_,rfl,q,C,dx,_,_,rfl,e4 _ _ G.ins,R.cl,R.nP,gi _ _ _ _ _ _ _ _,_,rfl,g,_,_,ms,rfl,⟨pa,as,rfl,e4.seq HB,has.same e4⟩,⟨sl,rfl,cy.of RK⟩,hg,by omega,Vl,fun m hm=>KU m ((KW m).1 hm),fun made M Ih fw H5 e5 hfw Vm=>?_⟩
    have uz:=e4.trans e5
    have Ky: ∀a,a∈made↔a∈(factsOf g).derived ll:=by
     intro a
     refine Sp.Me hg S (fun a=>?_) M.sub M.lt Ih M.gen a
     rw[KW a]
     constructor
     ·intro ha
      obtain⟨x,hx,ha⟩:=dZ.1 ha
      obtain⟨y,hy,e⟩:=ay.1 ha
      exact⟨x,(i8 x).1 hx,y,(i8 y).1 hy,e⟩
     ·rintro⟨x,hx,y,hy,e⟩
      exact dZ.2 ⟨x,(i8 x).2 hx,ay.2 ⟨y,(i8 y).2 hy,e⟩⟩
    obtain⟨SD,_,_⟩:=Sp.ki hg (l:=ll)
    have OQ:made.length=((factsOf g).derived ll).length:=yW M.nd SD.canon.nodup Ky
    have Nq:=Sp.ua hg S
    refine⟨_,rfl,fw,_,rfl,.inl (cy.of Vm),_,rfl,l,_,rfl,.inl (cy.of (e5 _ _ hl4)),rfl,_,rfl,?_⟩
    rw[oj,ae,bj,ae]
    refine gA (fun heq=>?_) (fun df=>?_)
    ·have h1:V.int (made.length:Nat)=V.int (ts.length:Nat):=of_decide_eq_true heq
     injection h1 with h1
     have h2:(factsOf g).derived ll=ll:=SD.canon.C4 S.canon Nq (by omega)
     have h3:(factsOf g).solvable=false:=by
      rw[RH,Sp.wm hg _ _ h2 kk]
      apply cO.2
      intro e
      rw[e]at LC
      simp at LC
      omega
     rw[h3]at k
     exact k _ uz
    ·have h1:made.length≠ts.length:=by
      intro e
      apply df
      rw[e]
      simp
     have h2:(factsOf g).derived ll≠ll:=fun e=>h1 (by rw[OQ,e,LC])
     have h3:((factsOf g).derived ll).length<ll.length:=by
      have:=Ch.a8 SD.canon.nodup Nq
      omega
     obtain⟨k',rfl⟩: ∃k',kk=k'+1:=⟨kk-1,by omega⟩
     refine⟨_,rfl,fw,made,(factsOf g).derived ll,k',some (.ref sl),some (.ref fw),h3,rfl,uz,Vm,M.nd,Ky,SD,by omega,?_⟩
     rw[RH,Sp.C7 hg _ _ h2]
  ·have QV:ts.length≤1:=by
    have: ¬((1:Int)<(ts.length:Int)):=fun h'=>hle (decide_eq_true h')
    omega
   have ZW:ll=[0]:=by
    have h0:=S.zero
    match ll,LC,h0 with
    |[a],_,h0=>
     rw[aQ]at h0
     rw[←h0]
    |a::b::_,LC,_=>simp at LC;omega
   subst ZW
   have h3:(factsOf g).solvable=true:=by
    rw[RH,Sp.wm hg _ _ (Sp.zE hg) kk]
    rfl
   rw[h3]at k
   exact k _ e2
end
end GT
end
section
namespace GT
open Rd01 (Grp factsOf)
section
variable{ns:List Int}{k:Nat}
theorem KY(Il: ∀x∈ns,0≤x):fZ ns k=Sp.cI ⟨k,ns.map Int.toNat⟩:=by
 unfold fZ Sp.cI Rd01.rowsOf Rd01.all_
 rw[aU]
 apply bM
 intro i _
 show(ns.drop (i*k)).take k=(((ns.map Int.toNat).drop (i*k)).take k).map fun(x:Nat)=>(x:Int)
 rw[←so,←j3,aU]
 have:((ns.drop (i*k)).take k).map id=((ns.drop (i*k)).take k).map ((fun(x:Nat)=>(x:Int))∘Int.toNat):=by
  apply bM
  intro x hx
  have:=Il x (List.mem_of_mem_drop (xX hx))
  show x=((x.toNat:Nat):Int)
  omega
 rw[←this,List.map_id]
end
section
variable(g:Grp)
theorem dy{a:Nat}(ha:a<g.n)(b:Nat):((Sp.cI g).getD a []).getD b 0=((Rd01.times (Rd01.rowsOf g) a b:Nat):Int):=by
 unfold Sp.cI Rd01.times
 have h0:((Rd01.rowsOf g).map fun r=>r.map fun(x:Nat)=>(x:Int)).getD a []=(((Rd01.rowsOf g)[a]?).map fun r=>r.map fun(x:Nat)=>(x:Int)).getD []:=by rw[af,ag]
 rw[h0]
 have h1:(Rd01.rowsOf g)[a]? =some ((Rd01.rowsOf g).getD a []):=by
  rw[af,aj (by rw[Sp.mU];exact ha)]
  rfl
 rw[h1]
 generalize (Rd01.rowsOf g).getD a []=r
 show(r.map fun(x:Nat)=>(x:Int)).getD b 0=((r.getD b 0:Nat):Int)
 rw[af,ag,af]
 cases r[b]? with
 |none=>rfl
 |some x=>rfl
theorem Fw{r:List Int}(hr:r∈Sp.cI g): ∃a,a<g.n∧r=(Sp.cI g).getD a []:=by
 obtain⟨a,ha⟩:=d6 hr
 have hl:=(aJ.mp ha).1
 rw[Sp.ek]at hl
 exact⟨a,hl,by rw[af,ha];rfl⟩
theorem D3{a:Nat}(ha:a<g.n):(Sp.cI g).getD a []∈Sp.cI g:=by
 rw[af,aj (by rw[Sp.ek];exact ha)]
 exact cn _
theorem el(hlen:g.t.length=g.n*g.n){a:Nat}(ha:a<g.n):((Sp.cI g).getD a []).length=g.n:=by
 rw[Sp.vR g ha,ae,cT,eF,hlen]
 have:(a+1)*g.n≤g.n*g.n:=eN _ ha
 rw[qN]at this
 omega
theorem KZ(hlen:g.t.length=g.n*g.n)(rB:1≤g.n):my (Sp.cI g)=Rd01.isGroup g:=by
 have kZ:=Sp.ek g
 have key:my (Sp.cI g)=true↔Rd01.isGroup g=true:=by
  unfold my
  rw[aN,aN,aN]
  constructor
  ·rintro⟨h1,h2,h3,h4⟩
   have lO: ∀a b,a<g.n→b<g.n→Rd01.times (Rd01.rowsOf g) a b<g.n:=by
    intro a b ha hb
    have h5:=aW.mp (aW.mp h1 _ (D3 g ha)) (((Sp.cI g).getD a []).getD b 0) (by
     rw[af (l:=(Sp.cI g).getD a []),aj (by rw[el g hlen ha];exact hb)]
     exact cn _)
    rw[aN,aG,aG,kZ,dy g ha]at h5
    omega
   rw[jJ,aN,aG,aG]at h2
   apply Sp.Cz
   refine⟨rB,hlen,?_,?_,?_,?_,?_⟩
   ·intro x hx
    obtain⟨j,hj⟩:=d6 hx
    have Jz:=(aJ.mp hj).1
    rw[hlen]at Jz
    have ha:j / g.n<g.n:=Nat.div_lt_of_lt_mul Jz
    have hb:j % g.n<g.n:=p0 _ rB
    have h5:=lO _ _ ha hb
    rw[Sp.A2 hlen ha hb]at h5
    have e1:j / g.n*g.n+j % g.n=j:=by rw[pf];exact Nat.div_add_mod j g.n
    have e2:g.t[j / g.n*g.n+j % g.n]? =some x:=by rw[e1];exact hj
    have e3:=(aJ.mp e2).2
    omega
   ·intro a ha
    have h5:=dy g (a:=0) rB a
    rw[h2.1,kZ,kM,af,ag,aX ha]at h5
    have h6:((a:Nat):Int)=((Rd01.times (Rd01.rowsOf g) 0 a:Nat):Int):=h5
    omega
   ·intro a ha
    have h5:=ba (fun l:List Int=>l.getD a 0) h2.2
    simp only[kO,kZ]at h5
    rw[af,ag,aj (by rw[kZ];exact ha),kM,af,ag,aX ha]at h5
    have h6:=dy g ha 0
    rw[af (l:=Sp.cI g),aj (by rw[kZ];exact ha)]at h6
    have h7:(Sp.cI g)[a].getD 0 0=((a:Nat):Int):=h5
    have h8:(Sp.cI g)[a].getD 0 0=((Rd01.times (Rd01.rowsOf g) a 0:Nat):Int):=h6
    omega
   ·intro a ha
    have h5:=aW.mp h3 _ (D3 g ha)
    rw[cS]at h5
    obtain⟨y,hy,hy0⟩:=h5
    obtain⟨b,hb⟩:=d6 hy
    have Ft:=(aJ.mp hb).1
    rw[el g hlen ha]at Ft
    refine⟨b,Ft,?_⟩
    have h6:=dy g ha b
    rw[af (l:=(Sp.cI g).getD a []),hb]at h6
    have h7:=eq_of_beq hy0
    have h8:y=((Rd01.times (Rd01.rowsOf g) a b:Nat):Int):=h6
    omega
   ·intro a b c ha hb hc
    have h5:=aW.mp h4 _ (D3 g ha)
    have h6:=aW.mp h5 b (aD.2 (by rw[el g hlen ha];exact hb))
    rw[nk,aG]at h6
    have uG:=lO a b ha hb
    have e1:=dy g ha b
    rw[e1,aY]at h6
    have h7:=ba (fun l:List Int=>l.getD c 0) h6
    rw[dy g uG,af (l:=List.map _ _),ag,aj (by rw[el g hlen hb];exact hc)]at h7
    have e2:=dy g hb c
    rw[af (l:=(Sp.cI g).getD b []),aj (by rw[el g hlen hb];exact hc)]at e2
    have ZX:((Sp.cI g).getD b [])[c]'(by rw[el g hlen hb];exact hc)=((Rd01.times (Rd01.rowsOf g) b c:Nat):Int):=e2
    have h8:((Rd01.times (Rd01.rowsOf g) (Rd01.times (Rd01.rowsOf g) a b) c:Nat):Int)=((Sp.cI g).getD a []).getD (((Sp.cI g).getD b [])[c]'(by rw[el g hlen hb];exact hc)).toNat 0:=h7
    rw[ZX,aY,dy g ha]at h8
    omega
  ·intro h
   have hg:=Sp.W7 h
   have eI:=fun{a b:Nat}(ha:a<g.n)(hb:b<g.n)=>Sp.kx hg ha hb
   refine⟨?_,?_,?_,?_⟩
   ·refine aW.mpr fun r hr=>aW.mpr fun x hx=>?_
    have h5:=(Sp.F2 hg hr).2 x hx
    rw[aN,aG,aG,kZ]
    exact h5
   ·rw[jJ,aN,aG,aG]
    constructor
    ·apply bO (by rw[el g hlen rB,kM,ae,bh,kZ])
     intro a h1 h2
     rw[el g hlen rB]at h1
     have e1:=dy g (a:=0) rB a
     rw[af (l:=(Sp.cI g).getD 0 []),aj (by rw[el g hlen rB];exact h1),hg.ya a h1]at e1
     simp only[kM,bY,cM]
     exact e1
    ·apply bO (by simp[kO,kM])
     intro a h1 h2
     simp only[kO,ae,kZ]at h1
     have e1:=dy g h1 0
     rw[hg.yb a h1,af (l:=Sp.cI g),aj (by rw[kZ];exact h1)]at e1
     simp only[kO,kM,bY,cM]
     exact e1
   ·refine aW.mpr fun r hr=>?_
    obtain⟨a,ha,rfl⟩:=Fw g hr
    obtain⟨b,hb,e⟩:=hg.inv a ha
    rw[cS]
    have e1:=dy g ha b
    rw[e,af (l:=(Sp.cI g).getD a []),aj (by rw[el g hlen ha];exact hb)]at e1
    exact⟨_,cn (by rw[el g hlen ha];exact hb),by rw[cV];exact e1⟩
   ·refine aW.mpr fun r hr=>?_
    obtain⟨a,ha,rfl⟩:=Fw g hr
    refine aW.mpr fun b hb=>?_
    rw[aD,el g hlen ha]at hb
    rw[nk,aG,dy g ha b,aY]
    have uG:=eI ha hb
    apply bO (by rw[el g hlen uG,ae,el g hlen hb])
    intro c h1 h2
    rw[el g hlen uG]at h1
    have e1:=dy g uG c
    rw[af (l:=(Sp.cI g).getD _ []),aj (by rw[el g hlen uG];exact h1)]at e1
    have Pr:((Sp.cI g).getD (Rd01.times (Rd01.rowsOf g) a b) [])[c]'(by rw[el g hlen uG];exact h1)=((Rd01.times (Rd01.rowsOf g) (Rd01.times (Rd01.rowsOf g) a b) c:Nat):Int):=e1
    have e2:=dy g hb c
    rw[af (l:=(Sp.cI g).getD b []),aj (by rw[el g hlen hb];exact h1)]at e2
    have ZX:((Sp.cI g).getD b [])[c]'(by rw[el g hlen hb];exact h1)=((Rd01.times (Rd01.rowsOf g) b c:Nat):Int):=e2
    rw[bY,Pr,ZX,aY,dy g ha,hg.assoc a b c ha hb h1]
 cases e1:my (Sp.cI g)with
 |true=>rw[key.1 e1]
 |false=>
  cases e2:Rd01.isGroup g with
  |false=>rfl
  |true=>rw[key.2 e2]at e1;cases e1
end
end GT
end
section
namespace GT
open PySem PySem.Spec PyProof.Rows L2
open Rd01 (Grp factsOf)
theorem jY{c A B:Prop} [Decidable c](h: ¬c)(hB:B):if decide c=true then A else B:=by
 rw[decide_eq_false h]
 exact rT hB
theorem Hj{c A B:Prop} [Decidable c](h:c)(hA:A):if decide c=true then A else B:=by
 rw[decide_eq_true h]
 exact oi hA
def g1:Grp:=⟨1,[0]⟩
theorem K0:Sp.jO g1:=Sp.W7 (by decide +kernel)
theorem NJ:Sp.cI g1=[[0]]:=by decide +kernel
def Hk(CL:Addr)(H:Hp)(l q:Addr):Prop:=∃dx,H l=some (.ins CL dx [("group",.ref q)])
structure K1(K:W.Frag)(C:Addr):Prop where
 cl:Bw K C
 nG:ez K C "group"
def Fx(K:W.Frag)(C:Addr)(H:Hp)(q:Addr)(g:Grp):Prop:=Sp.jO g∧g.n≤24∧∃vc,Gr K C H q g vc∧(vc=.fC∨TL K H vc (iq g))
section
variable{K:W.Frag}{C:Addr}{H H':Hp}{q p:Addr}{g:Grp}
theorem Fx.same(e:a0 H H')(h:Fx K C H q g):Fx K C H' q g:=by
 obtain⟨h1,h2,vc,h3,h4⟩:=h
 exact⟨h1,h2,vc,h3.same e,h4.imp id fun t=>t.same e⟩
theorem Gr.but{C' Di:Addr}{fs:List (Str×V)}{vc:V}(e:ie p H H')(hp:H p=some (.ins C' Di fs))(df:q≠p)(h:Gr K C H q g vc):Gr K C H' q g vc:=by
 obtain⟨dx,vP,vI,vN,vM,vS,h⟩:=h
 exact⟨dx,vP,vI,vN,vM,vS,e _ _ h.ins df,e.tl hp h.pr,e.il hp h.iv,e.il hp h.nm,e.tl hp h.mb,e.il hp h.sz⟩
theorem Fx.but{C' Di:Addr}{fs:List (Str×V)}(e:ie p H H')(hp:H p=some (.ins C' Di fs))(df:q≠p)(h:Fx K C H q g):Fx K C H' q g:=by
 obtain⟨h1,h2,vc,h3,h4⟩:=h
 exact⟨h1,h2,vc,h3.but e hp df,h4.imp id fun t=>e.tl hp t⟩
theorem Fx.ins(h:Fx K C H q g): ∃dx fs,H q=some (.ins C dx fs):=by
 obtain⟨_,_,_,⟨dx,_,_,_,_,_,h⟩,_⟩:=h
 exact⟨dx,_,h.ins⟩
end
section
variable{P:Program}{w:World}{K:W.Frag}{mg:Str→Option Value}{base:Heap}
def D4(K:W.Frag)(C:Addr):Sp:=fun vs H Q _=>vs=[]∧∀(H':Hp)(x:Addr),a0 H H'→H x=none→Gr K C H' x g1 .fC→Q (.ref x) H'
theorem NK:bf [] [] (aB m9):=⟨rfl,rfl,rfl,by decide +kernel,rfl,by decide +kernel,by decide +kernel⟩
theorem NL{f C:Addr}{fd:FuncData}(F:f6 K "lone_group" "lone_group" m9 f fd)(k1:BR P w K mg base 3 "Group" C ["self","products"] (An K C)):cF P w K mg base fT 5 f fd [] (D4 K C):=by
 refine F.ok NK (fun vs H Q E h=>?_) (fun eM A outer s H vs Q E hr h=>?_)
 ·obtain⟨rfl,_⟩:=h
  rfl
 ·obtain⟨rfl,k⟩:=h
  refine⟨_,aA (a9 (uR k1 hr rfl (ah (gd (ah (gd (ah bG ax)) ax)) ax))),?_⟩
  refine⟨by show 1≤sizeLine;have:=bD;omega,fun a ha=>⟨by show 1≤sizeLine;have:=bD;omega,fun b hb=>?_⟩⟩
  intro x dx hx UO df
  have uG:a≠b:=aK au hb
  have e1:a0 H (upd (upd H a (.lst [V.int 0])) b (.lst [V.ref a])):=(bq ha).trans (bq hb)
  have hax:a≠x:=aK (o:=.lst [V.int 0]) (by rw[aE uG,au]) hx
  have ZY:a≠dx:=aK (o:=.lst [V.int 0]) (by rw[aE uG,au]) UO
  have K2:b≠x:=aK au hx
  have ZZ:b≠dx:=aK au UO
  refine⟨x,dx,.ref b,g1,rfl,au,?_,K0,by decide,fun H' bt hG=>⟨rfl,k H' x (fun y o hy=>?_) (cg e1 hx) hG⟩⟩
  ·rw[NJ]
   refine⟨b,[a],rfl,cy.of ?_,cy.of ?_,trivial⟩
   ·rw[aE K2,aE ZZ,au]
    rfl
   ·rw[aE hax,aE ZY,aE uG,au]
    rfl
  ·have Lp:=e1 _ _ hy
   exact bt y o (by rw[aE (aK Lp hx),aE (aK Lp UO)];exact Lp) (aK Lp hx)
def Fy(K:W.Frag)(CL C:Addr):Sp:=fun vs H Q _=>∃(l dx:Addr),vs=[.ref l]∧H l=some (.ins CL dx [])∧∀(H':Hp)(x:Addr),ie l H H'→H x=none→Hk CL H' l x→Gr K C H' x g1 .fC→Q .fC H'
theorem K3:bf ["self"] ["self"] (aB o4):=⟨rfl,rfl,rfl,by decide +kernel,rfl,by decide +kernel,by decide +kernel⟩
theorem K4{f C CL:Addr}{fd:FuncData}(F:f6 K "__init__" "Line.__init__" o4 f fd)(R:K1 K CL)(c1:iJ P w K mg base 5 "lone_group" [] (D4 K C)):cF P w K mg base fT 6 f fd ["self"] (Fy K CL C):=by
 refine F.ok K3 (fun vs H Q E h=>?_) (fun eM A outer s H vs Q E hr h=>?_)
 ·obtain⟨l,dx,rfl,_⟩:=h
  rfl
 ·obtain⟨l,dx,rfl,hl,k⟩:=h
  refine⟨_,aA (fu (L2.pv 0) (EZ c1 hr rfl) rfl),?_⟩
  refine⟨rfl,fun H1 x e1 hx hG=>?_⟩
  have Z0:x≠l:=fun e=>by rw[e,hl]at hx;cases hx
  refine⟨_,rfl,l,CL,dx,_,rfl,e1 _ _ hl,R.cl,R.nG,(by show 0<1000;decide),?_⟩
  exact k _ x (fun b o hb Ft=>by rw[aE Ft];exact e1 _ _ hb) hx ⟨dx,au⟩ (hG.but ie.upd (e1 _ _ hl) Z0)
def Fz(K:W.Frag)(CL C:Addr):Sp:=fun vs H Q _=>∃(l q:Addr),vs=[.ref l]∧Hk CL H l q∧∀(H':Hp)(x:Addr),ie l H H'→H x=none→Hk CL H' l x→Gr K C H' x g1 .fC→Q (.int 0) H'
theorem K5:bf ["line"] ["line"] (aB Ae):=⟨rfl,rfl,rfl,by decide +kernel,rfl,by decide +kernel,by decide +kernel⟩
theorem K6{f C CL:Addr}{fd:FuncData}(F:f6 K "begin" "begin" Ae f fd)(R:K1 K CL)(c1:iJ P w K mg base 5 "lone_group" [] (D4 K C)):cF P w K mg base fT 6 f fd ["line"] (Fz K CL C):=by
 refine F.ok K5 (fun vs H Q E h=>?_) (fun eM A outer s H vs Q E hr h=>?_)
 ·obtain⟨l,q,rfl,_⟩:=h
  rfl
 ·obtain⟨l,q,rfl,⟨dx,hl⟩,k⟩:=h
  refine⟨_,ak (fu (L2.pv 0) (EZ c1 hr rfl) rfl) (aA (a9 bG)),?_⟩
  refine⟨rfl,fun H1 x e1 hx hG=>?_⟩
  have Z0:x≠l:=fun e=>by rw[e,hl]at hx;cases hx
  refine⟨_,rfl,l,CL,dx,_,rfl,e1 _ _ hl,R.cl,R.nG,(by show 1<1000;decide),?_⟩
  exact k _ x (fun b o hb Ft=>by rw[aE Ft];exact e1 _ _ hb) hx ⟨dx,au⟩ (hG.but ie.upd (e1 _ _ hl) Z0)
def xW(ns:List Int):Option Grp:=match Rd01.sideOf (ns.length:Nat)with
 |none=>none
 |some k=>if Rd01.isGroup ⟨k,ns.map Int.toNat⟩=true then some ⟨k,ns.map Int.toNat⟩else none
theorem K7{ns:List Int}(Il: ∀x∈ns,0≤x):tableOf ns=(xW ns).map Sp.cI:=by
 unfold tableOf xW
 cases e:Rd01.sideOf (ns.length:Nat)with
 |none=>rfl
 |some k=>
  obtain⟨h1,h2,h3⟩:=pQ e
  have hr:=KY (k:=k) Il
  have hg:=KZ ⟨k,ns.map Int.toNat⟩ (by show(ns.map Int.toNat).length=k*k;rw[ae,h3]) h1
  show(if my (fZ ns k)=true then some (fZ ns k)else none)=Option.map Sp.cI (if Rd01.isGroup ⟨k,ns.map Int.toNat⟩=true then some ⟨k,ns.map Int.toNat⟩else none)
  rw[hr,hg]
  cases Rd01.isGroup ⟨k,ns.map Int.toNat⟩with
  |true=>rfl
  |false=>rfl
theorem yX{ns:List Int}{g:Grp}(h:xW ns=some g)(hl:ns.length≤576):Sp.jO g∧g.n≤24:=by
 unfold xW at h
 cases e:Rd01.sideOf (ns.length:Nat)with
 |none=>rw[e]at h;cases h
 |some k=>
  rw[e]at h
  obtain⟨h1,h2,h3⟩:=pQ e
  by_cases hi:Rd01.isGroup ⟨k,ns.map Int.toNat⟩=true
  ·have h':(if Rd01.isGroup ⟨k,ns.map Int.toNat⟩=true then some (⟨k,ns.map Int.toNat⟩:Grp)else none)=some g:=h
   rw[aO hi]at h'
   cases h'
   refine⟨Sp.W7 hi,?_⟩
   show k≤24
   apply ai
   intro hn
   have:25*25≤k*k:=ja (by omega) (by omega)
   omega
  ·have h':(if Rd01.isGroup ⟨k,ns.map Int.toNat⟩=true then some (⟨k,ns.map Int.toNat⟩:Grp)else none)=some g:=h
   rw[aI hi]at h'
   cases h'
def K8(K:W.Frag)(CL C:Addr):Sp:=fun vs H Q _=>∃(l q:Addr)(v:V)(ns:List Int),vs=[.ref l,v]∧Hk CL H l q∧IL K H v ns∧(∀x∈ns,0≤x)∧ns.length≤576∧(xW ns=none→∀H',a0 H H'→Q (.int (-1)) H')∧
 ∀(g:Grp)(H':Hp)(x:Addr),xW ns=some g→ie l H H'→H x=none→Hk CL H' l x→Gr K C H' x g .fC→Q (.int (g.n:Nat)) H'
theorem FA:bf ["line","numbers","products"] ["line","numbers"] (aB ng):=⟨rfl,rfl,rfl,by decide +kernel,rfl,by decide +kernel,by decide +kernel⟩
theorem NM{f C CL:Addr}{fd:FuncData}{t:Tok}(F:f6 K "take_table" "take_table" ng f fd)(R:K1 K CL)(RG:jK K C)(hR:mg "REFUSED"=some (.int (-1) t))(c1:iJ P w K mg base 2 "group_products" ["numbers"] (UC K))(k1:BR P w K mg base 3 "Group" C ["self","products"] (An K C)):cF P w K mg base fT 5 f fd ["line","numbers"] (K8 K CL C):=by
 refine F.ok FA (fun vs H Q E h=>?_) (fun eM A outer s H vs Q E hr h=>?_)
 ·obtain⟨l,q,v,ns,rfl,_⟩:=h
  rfl
 ·obtain⟨l,q,v,ns,rfl,⟨dx,hl⟩,hv,Il,hlen,kN,kS⟩:=h
  have yO:dY 2 _:=hr.mono (by omega)
  refine⟨_,ak (bI (i:=2) FA.nd rfl (Or.inl rfl) (bQ c1 yO rfl (ah (L2.pv 1) ax)))
   (ak (dR (zL (zK (L2.pv 2))) (aA (a9 (dC (v:=.int (-1)) rfl hR ⟨_,rfl⟩))) cq)
   (ak (fu (L2.pv 0) (uR k1 hr rfl (ah (L2.pv 2) ax)) rfl)
   (aA (a9 (bz (bz (L2.pv 0) rfl) rfl))))),?_⟩
  refine⟨_,rfl,v,ns,rfl,hv,fun v1 H1 e1 K9=>?_⟩
  rw[K7 Il]at K9
  cases hT:xW ns with
  |none=>
   rw[hT]at K9
   have PZ:v1=.fC:=K9
   subst PZ
   exact⟨_,rfl,_,rfl,kN hT _ e1⟩
  |some g=>
   rw[hT]at K9
   obtain⟨a,as,rfl,ha,has⟩:TL K H1 v1 (Sp.cI g):=K9
   obtain⟨hg,g6⟩:=yX hT hlen
   refine⟨_,rfl,_,rfl,_,rfl,?_⟩
   intro x Di hx Z1 df
   have Pg:=cg e1 hx
   have e2:a0 H1 (upd (upd H1 Di (.own x)) x (.ins C Di [])):=fun b o hb=>by rw[aE (aK hb hx),aE (aK hb Z1)];exact hb
   refine⟨x,Di,.ref a,g,rfl,au,⟨a,as,rfl,e2.seq ha,has.same e2⟩,hg,g6,fun H2 bt hG=>⟨rfl,?_⟩⟩
   have hlx:l≠x:=aK (e1 _ _ hl) hx
   have oE:H2 l=some (.ins CL dx [("group",.ref q)]):=bt _ _ (e2 _ _ (e1 _ _ hl)) hlx
   refine⟨_,rfl,l,CL,dx,_,rfl,oE,R.cl,R.nG,(by show 1<1000;decide),?_⟩
   have D0:upd H2 l (.ins CL dx (et "group" (.ref x) [("group",.ref q)])) l=some (.ins CL dx [("group",.ref x)]):=au
   have Vc:Gr K C (upd H2 l (.ins CL dx (et "group" (.ref x) [("group",.ref q)]))) x g .fC:=hG.but ie.upd oE hlx.symm
   have b3:ie l H (upd H2 l (.ins CL dx (et "group" (.ref x) [("group",.ref q)]))):=fun b o hb Ft=>by
    rw[aE Ft]
    exact bt _ _ (e2 _ _ (e1 _ _ hb)) (aK (e1 _ _ hb) hx)
   generalize upd H2 l (.ins CL dx (et "group" (.ref x) [("group",.ref q)]))=H3 at D0 Vc b3
   obtain⟨LB,vP,vI,vN,vM,vS,G3⟩:=id Vc
   exact⟨_,rfl,l,CL,dx,_,_,rfl,D0,R.cl,R.nG,rfl,x,C,LB,_,_,rfl,G3.ins,RG.cl,RG.nO,jL _ _ _ _ _ _ _ _,kS g _ x hT b3 Pg ⟨dx,D0⟩ Vc⟩
def FC(K:W.Frag)(C:Addr):Sp:=fun vs H Q _=>∃(q:Addr)(g:Grp)(vc:V)(z:Int),vs=[.ref q,.int z]∧Gr K C H q g vc∧Q (.int (if Rd01.below z g.n=true then((factsOf g).classOf z.toNat:Int)else-1)) H
theorem fJ{z:Int}{n:Nat}(h:Rd01.below z n=true): ∃a:Nat,z=(a:Nat)∧a<n:=by
 unfold Rd01.below at h
 rw[aN,aG,aG]at h
 exact⟨z.toNat,by omega,by omega⟩
theorem La:bf ["group","thing"] ["group","thing"] (aB qy):=⟨rfl,rfl,rfl,by decide +kernel,rfl,by decide +kernel,by decide +kernel⟩
theorem Lb{f C:Addr}{fd:FuncData}{t:Tok}(F:f6 K "class_of" "class_of" qy f fd)(R:jK K C)(hR:mg "REFUSED"=some (.int (-1) t))(m1:jX P w K mg base 1 C "has_thing" ["self","thing"] (sf K C)):cF P w K mg base fT 2 f fd ["group","thing"] (FC K C):=by
 refine F.ok La (fun vs H Q E h=>?_) (fun eM A outer s H vs Q E hr h=>?_)
 ·obtain⟨q,g,vc,z,rfl,_⟩:=h
  rfl
 ·obtain⟨q,g,vc,z,rfl,hG,k⟩:=h
  refine⟨_,ak (dR (iR (fH (eW m1 R.cl hr (L2.pv 0) (ah (L2.pv 1) ax)))) (aA (a9 (dC (v:=.int (-1)) rfl hR ⟨_,rfl⟩))) cq)
   (aA (a9 (cK bH (bz (L2.pv 0) rfl) (L2.pv 1) (fun _ _=>rfl)))),?_⟩
  obtain⟨dx,vP,vI,vN,vM,vS,G⟩:=id hG
  refine⟨_,rfl,q,dx,_,rfl,G.ins,rfl,_,rfl,q,g,vc,z,rfl,hG,_,rfl,?_⟩
  cases hb:Rd01.below z g.n with
  |false=>
   rw[hb]at k
   exact oi k
  |true=>
   rw[hb]at k
   obtain⟨a,rfl,ha⟩:=fJ hb
   obtain⟨na,rfl,Nf⟩:=G.nm
   exact rT ⟨_,rfl,q,C,dx,_,_,rfl,G.ins,R.cl,R.nN,ny _ _ _ _ _ _ _ _,_,rfl,na,_,_,_,rfl,rfl,Nf,at_of (j:=a) rfl (uW g ha),k⟩
def FD(K:W.Frag)(C:Addr):Sp:=fun vs H Q _=>∃(q:Addr)(g:Grp)(vc:V)(z:Int),vs=[.ref q,.int z]∧Gr K C H q g vc∧Q (.int (if Rd01.below z (factsOf g).many=true then((factsOf g).sizeOf_ z.toNat:Int)else-1)) H
theorem Lc:bf ["group","number"] ["group","number"] (aB tp):=⟨rfl,rfl,rfl,by decide +kernel,rfl,by decide +kernel,by decide +kernel⟩
theorem Ld(g:Grp){i:Nat}(hi:i<(factsOf g).many):((Sp.sizeZ g).map V.int)[i]? =some (V.int ((factsOf g).sizeOf_ i:Nat)):=by
 rw[Sp.sizeZ,aU,ag,aX hi]
 rfl
theorem Le{f C:Addr}{fd:FuncData}{t:Tok}(F:f6 K "size_of" "size_of" tp f fd)(R:jK K C)(hR:mg "REFUSED"=some (.int (-1) t))(m1:jX P w K mg base 1 C "has_class" ["self","number"] (nA K C)):cF P w K mg base fT 2 f fd ["group","number"] (FD K C):=by
 refine F.ok Lc (fun vs H Q E h=>?_) (fun eM A outer s H vs Q E hr h=>?_)
 ·obtain⟨q,g,vc,z,rfl,_⟩:=h
  rfl
 ·obtain⟨q,g,vc,z,rfl,hG,k⟩:=h
  refine⟨_,ak (dR (iR (fH (eW m1 R.cl hr (L2.pv 0) (ah (L2.pv 1) ax)))) (aA (a9 (dC (v:=.int (-1)) rfl hR ⟨_,rfl⟩))) cq)
   (aA (a9 (cK bH (bz (L2.pv 0) rfl) (L2.pv 1) (fun _ _=>rfl)))),?_⟩
  obtain⟨dx,vP,vI,vN,vM,vS,G⟩:=id hG
  refine⟨_,rfl,q,dx,_,rfl,G.ins,rfl,_,rfl,q,g,vc,z,rfl,hG,_,rfl,?_⟩
  cases hb:Rd01.below z (factsOf g).many with
  |false=>
   rw[hb]at k
   exact oi k
  |true=>
   rw[hb]at k
   obtain⟨a,rfl,ha⟩:=fJ hb
   obtain⟨na,rfl,Nf⟩:=G.sz
   exact rT ⟨_,rfl,q,C,dx,_,_,rfl,G.ins,R.cl,R.nS,o8 _ _ _ _ _ _ _ _,_,rfl,na,_,_,_,rfl,rfl,Nf,at_of (j:=a) rfl (Ld g ha),k⟩
def Vn(K:W.Frag)(C:Addr):Sp:=fun vs H Q _=>∃(q:Addr)(g:Grp)(vc:V)(z:Int),vs=[.ref q,.int z]∧Gr K C H q g vc∧Sp.jO g∧g.n≤24∧∀H',a0 H H'→Q (.int (if Rd01.below z g.n=true then((factsOf g).pairs z.toNat:Int)else-1)) H'
theorem Vo:bf ["group","thing"] ["group","thing"] (aB Af):=⟨rfl,rfl,rfl,by decide +kernel,rfl,by decide +kernel,by decide +kernel⟩
theorem Vp{f C:Addr}{fd:FuncData}{t:Tok}(F:f6 K "pairs" "pairs" Af f fd)(R:jK K C)(hR:mg "REFUSED"=some (.int (-1) t))(m1:jX P w K mg base 1 C "has_thing" ["self","thing"] (sf K C))(c1:iJ P w K mg base 3 "count_pairs" ["group","thing"] (Fj K C)):cF P w K mg base fT 4 f fd ["group","thing"] (Vn K C):=by
 refine F.ok Vo (fun vs H Q E h=>?_) (fun eM A outer s H vs Q E hr h=>?_)
 ·obtain⟨q,g,vc,z,rfl,_⟩:=h
  rfl
 ·obtain⟨q,g,vc,z,rfl,hG,hg,g6,k⟩:=h
  have tF:dY 1 _:=hr.mono (by omega)
  refine⟨_,ak (dR (iR (fH (eW m1 R.cl tF (L2.pv 0) (ah (L2.pv 1) ax)))) (aA (a9 (dC (v:=.int (-1)) rfl hR ⟨_,rfl⟩))) cq)
   (aA (a9 (bQ c1 hr rfl (ah (L2.pv 0) (ah (L2.pv 1) ax))))),?_⟩
  obtain⟨dx,vP,vI,vN,vM,vS,G⟩:=id hG
  refine⟨_,rfl,q,dx,_,rfl,G.ins,rfl,_,rfl,q,g,vc,z,rfl,hG,_,rfl,?_⟩
  cases hb:Rd01.below z g.n with
  |false=>
   rw[hb]at k
   exact oi (k _ a0.refl)
  |true=>
   rw[hb]at k
   obtain⟨a,rfl,ha⟩:=fJ hb
   exact rT ⟨_,rfl,_,rfl,q,g,vc,a,rfl,hG,hg,by omega,k⟩
def Lf(K:W.Frag)(C:Addr):Sp:=fun vs H Q _=>∃(q:Addr)(g:Grp)(vc:V),vs=[.ref q]∧Gr K C H q g vc∧Sp.jO g∧g.n≤24∧∀H',a0 H H'→Q (.int (Rd01.bit (factsOf g).solvable)) H'
theorem NN:bf ["group"] ["group"] (aB qz):=⟨rfl,rfl,rfl,by decide +kernel,rfl,by decide +kernel,by decide +kernel⟩
theorem NO{f C:Addr}{fd:FuncData}(F:f6 K "solvable" "solvable" qz f fd)(c1:iJ P w K mg base 3 "comes_apart" ["group"] (Fv K C)):cF P w K mg base fT 4 f fd ["group"] (Lf K C):=by
 refine F.ok NN (fun vs H Q E h=>?_) (fun eM A outer s H vs Q E hr h=>?_)
 ·obtain⟨q,g,vc,rfl,_⟩:=h
  rfl
 ·obtain⟨q,g,vc,rfl,hG,hg,g6,k⟩:=h
  refine⟨_,aA (a9 (I0 (fH (bQ c1 hr rfl (ah (L2.pv 0) ax))) bG bG)),?_⟩
  refine⟨_,rfl,q,g,vc,rfl,hG,hg,g6,fun H1 e1=>⟨_,rfl,?_⟩⟩
  have:=k _ e1
  unfold Rd01.bit at this
  cases hs:(factsOf g).solvable with
  |true=>
   rw[hs]at this
   exact oi this
  |false=>
   rw[hs]at this
   exact rT this
end
end GT
end
section
namespace GT
open PySem PySem.Spec PyProof.Rows L2
open Rd01 (Grp factsOf)
def yY(a b:Addr)(H H':Hp):Prop:=∀y o,H y=some o→y≠a→y≠b→H' y=some o
theorem ie.Hl{a b:Addr}{H H':Hp}(e:ie a H H'):yY a b H H':=fun y o h h1 _=>e y o h h1
theorem ie.fr2{a b:Addr}{H H':Hp}(e:ie b H H'):yY a b H H':=fun y o h _ h2=>e y o h h2
theorem yY.trans{a b:Addr}{H H1 H2:Hp}(e:yY a b H H1)(e':yY a b H1 H2):yY a b H H2:=fun y o h h1 h2=>e' y o (e y o h h1 h2) h1 h2
theorem a0.fr{a b:Addr}{H H':Hp}(e:a0 H H'):yY a b H H':=fun y o h _ _=>e y o h
structure RG(K:W.Frag)(CR C:Addr)(H:Hp)(pr:Addr)(v:V)(ns:List Int)(i:Nat)(q:Addr)(g:Grp):Prop where
 rd:BO CR H pr v ((i:Nat):Int)
 il:IL K H v ns
 gr:Fx K C H q g
 ne:q≠pr
section
variable{K:W.Frag}{CR C:Addr}{H H':Hp}{pr q:Addr}{v:V}{ns:List Int}{i j:Nat}{g:Grp}
theorem RG.read(S:RG K CR C H pr v ns i q g)(e:ie pr H H')(h:BO CR H' pr v ((j:Nat):Int)):RG K CR C H' pr v ns j q g:=by
 obtain⟨dx,hp⟩:=S.rd
 exact⟨h,e.il hp S.il,S.gr.but e hp S.ne,S.ne⟩
theorem RG.same(S:RG K CR C H pr v ns i q g)(e:a0 H H'):RG K CR C H' pr v ns i q g:=by
 obtain⟨dx,hp⟩:=S.rd
 exact⟨⟨dx,e _ _ hp⟩,S.il.same e,S.gr.same e,S.ne⟩
theorem RG.chars(S:RG K CR C H pr v ns i q g)(e:ie q H H')(hG:Fx K C H' q g):RG K CR C H' pr v ns i q g:=by
 obtain⟨dx,hp⟩:=S.rd
 obtain⟨dq,fs,hq⟩:=S.gr.ins
 exact⟨⟨dx,e _ _ hp S.ne.symm⟩,e.il hq S.il,hG,S.ne⟩
end
section
variable{P:Program}{w:World}{K:W.Frag}{mg:Str→Option Value}{base:Heap}
theorem Cg{g:Grp}(hg:Sp.jO g)(g6:g.n≤24){a:Nat}(ha:a<(factsOf g).many):(iq g)[a]? =some (bj (((factsOf g).chars (factsOf g).prime).getD a []))∧(((factsOf g).chars (factsOf g).prime).getD a []).length=(factsOf g).many:=by
 obtain⟨uV,GV,_⟩:=Sp.fF hg g6
 have:NeZero (factsOf g).prime:=⟨by have:=uV.1;omega⟩
 obtain⟨c1,c2,c3⟩:=Sp.ky hg (p:=(factsOf g).prime) g6 uV GV (Sp.pI hg g6)
 have hl:a<((factsOf g).chars (factsOf g).prime).length:=by rw[c2];exact ha
 have he:((factsOf g).chars (factsOf g).prime)[a]? =some (((factsOf g).chars (factsOf g).prime).getD a []):=by
  rw[af,aj hl]
  rfl
 refine⟨by rw[iq,ag,he];rfl,((c3 _).1 (aL he)).len⟩
theorem FE{H:Hp}{as:List Addr}{rs:List (List Int)}(h:eA K H as rs){i:Nat}{r:List Int}(hr:rs[i]? =some r): ∃b,as[i]? =some b∧cy K H b (r.map V.int):=by
 have hi:=(aJ.mp hr).1
 obtain⟨b,hb⟩: ∃b,as[i]? =some b:=⟨_,aj (by rw[h.len];exact hi)⟩
 obtain⟨r',h1,h2⟩:=h.at_ hb
 rw[hr]at h1
 cases h1
 exact⟨b,hb,h2⟩
def Lg(K:W.Frag)(C:Addr):Sp:=fun vs H Q _=>∃(q:Addr)(g:Grp)(z:Int),vs=[.ref q,.int z]∧Fx K C H q g∧∀H',ie q H H'→Fx K C H' q g→Q (.int (if Rd01.below z (factsOf g).many=true then((factsOf g).kind (factsOf g).prime (((factsOf g).chars (factsOf g).prime).getD z.toNat []):Int)else-1)) H'
theorem NP:bf ["group","number"] ["group","number"] (aB Dv):=⟨rfl,rfl,rfl,by decide +kernel,rfl,by decide +kernel,by decide +kernel⟩
theorem NQ{f C:Addr}{fd:FuncData}{t:Tok}(F:f6 K "kind" "kind" Dv f fd)(R:jK K C)(hR:mg "REFUSED"=some (.int (-1) t))(m1:jX P w K mg base 2 C "has_character" ["self","number"] (nA K C))(c1:iJ P w K mg base 1 "kind_of" ["group","character"] (Cc K C))(c2:iJ P w K mg base 6 "characters_of" ["group"] (AA K C)):cF P w K mg base fT 7 f fd ["group","number"] (Lg K C):=by
 refine F.ok NP (fun vs H Q E h=>?_) (fun eM A outer s H vs Q E hr h=>?_)
 ·obtain⟨q,g,z,rfl,_⟩:=h
  rfl
 ·obtain⟨q,g,z,rfl,hO,k⟩:=h
  have tF:dY 1 _:=hr.mono (by omega)
  have yO:dY 2 _:=hr.mono (by omega)
  refine⟨_,ak (dR (iR (fH (eW m1 R.cl yO (L2.pv 0) (ah (L2.pv 1) ax)))) (aA (a9 (dC (v:=.int (-1)) rfl hR ⟨_,rfl⟩))) cq)
   (aA (a9 (bQ c1 tF rfl (ah (L2.pv 0) (ah (cK bH (bQ c2 hr rfl (ah (L2.pv 0) ax)) (L2.pv 1) (fun _ _=>rfl)) ax))))),?_⟩
  obtain⟨hg,g6,vc,hG,OW⟩:=id hO
  obtain⟨dx,vP,vI,vN,vM,vS,G⟩:=id hG
  refine⟨_,rfl,q,dx,_,rfl,G.ins,rfl,_,rfl,q,g,vc,z,rfl,hG,_,rfl,?_⟩
  cases hb:Rd01.below z (factsOf g).many with
  |false=>
   rw[hb]at k
   exact oi (k _ (fun b o h _=>h) hO)
  |true=>
   rw[hb]at k
   obtain⟨a,rfl,ha⟩:=fJ hb
   obtain⟨Z2,Z3⟩:=Cg hg g6 ha
   obtain⟨uV,GV,_⟩:=Sp.fF hg g6
   refine rT ⟨_,rfl,_,rfl,q,g,vc,none,rfl,(by rw[xl];exact hG),hg,g6,(by rw[xl];exact OW),(by intro d hd;cases hd),fun v' H1 e1 NR P1=>?_⟩
   rw[xl]at NR P1
   obtain⟨ta,ts,rfl,Z4,Z5⟩:=id P1
   obtain⟨b,ke,Fh⟩:=FE Z5 Z2
   refine⟨_,rfl,ta,_,_,_,rfl,rfl,Z4,at_of (j:=a) (v:=V.ref b) rfl (by rw[ag,ke];rfl),q,g,_,_,((factsOf g).chars (factsOf g).prime).getD a [],rfl,NR,hg,by omega,by have:=uV.1;omega,⟨b,rfl,Fh⟩,Z3,fun H2 e2=>?_⟩
   exact k _ (e1.gj e2) ⟨hg,g6,_,NR.same e2,.inr (P1.same e2)⟩
def AD(g:Grp)(z m:Int):List Int:=if Rd01.below z (factsOf g).many=true then((factsOf g).many:Int)::bj ((((factsOf g).chars (factsOf g).prime).getD z.toNat []).take (Rd01.room_ m 64))else[-1]
def OZ(K:W.Frag)(CR C:Addr):Sp:=fun vs H Q _=>∃(q pr:Addr)(g:Grp)(v:V)(ns:List Int)(i:Nat)(z m:Int),vs=[.ref q,.ref pr]∧RG K CR C H pr v ns i q g∧ns[i]? =some z∧ns[i+1]? =some m∧
 ∀(H':Hp)(D:Addr),RG K CR C H' pr v ns (i+2) q g→yY pr q H H'→H D=none→H' D=some (.lst ((AD g z m).map V.int))→Q (.ref D) H'
theorem AE:bf ["group","reader","number","most","told"] ["group","reader"] (aB ik):=⟨rfl,rfl,rfl,by decide +kernel,rfl,by decide +kernel,by decide +kernel⟩
theorem D5{a b:Addr}{H H':Hp}{y:Addr}(e:yY a b H H')(ha:y≠a)(hb:y≠b)(h:H' y=none):H y=none:=by
 cases e5:H y with
 |none=>rfl
 |some u=>rw[e _ _ e5 ha hb]at h;cases h
theorem RM{f C CR:Addr}{fd:FuncData}{t t2:Tok}(F:f6 K "answer_character" "answer_character" ik f fd)(T:Txt mg)(R:jK K C)(RR:wJ K CR)(hR:mg "REFUSED"=some (.int (-1) t))(hM:mg "MOST_TOLD"=some (.int 64 t2))
  (m0:jX P w K mg base 1 CR "read_number" ["self"] (yI K CR))(m1:jX P w K mg base 2 C "has_character" ["self","number"] (nA K C))(c2:iJ P w K mg base 6 "characters_of" ["group"] (AA K C)):cF P w K mg base fT 7 f fd ["group","reader"] (OZ K CR C):=by
 refine F.ok AE (fun vs H Q E h=>?_) (fun eM A outer s H vs Q E hr h=>?_)
 ·obtain⟨q,pr,g,v,ns,i,z,m,rfl,_⟩:=h
  rfl
 ·obtain⟨q,pr,g,v,ns,i,z,m,rfl,S,hz,hm,k⟩:=h
  have tF:dY 1 _:=hr.mono (by omega)
  have yO:dY 2 _:=hr.mono (by omega)
  refine⟨_,ak (bI (i:=2) AE.nd rfl (Or.inl rfl) (eX m0 RR.cl tF (L2.pv 1)))
   (ak (bI (i:=3) AE.nd rfl (Or.inl rfl) (eX m0 RR.cl tF (L2.pv 1)))
   (ak (dR (iR (fH (eW m1 R.cl yO (L2.pv 0) (ah (L2.pv 2) ax)))) (aA (a9 (gd (ah (dC (v:=.int (-1)) rfl hR ⟨_,rfl⟩) ax)))) cq)
   (ak (bI (i:=4) AE.nd rfl (Or.inl rfl) (gd (ah (bZ bN (by rfl) T.len bK (ah (bz (L2.pv 0) rfl) ax)) ax)))
   (ak (dR (Bv uc uc bG (L2.pv 3) (dC (v:=.int 64) rfl hM ⟨_,rfl⟩))
    (aA (gz (lA bF j4 j5 pM (L2.pv 4) (ah (mi pL (cK bH (bQ c2 hr rfl (ah (L2.pv 0) ax)) (L2.pv 2) (fun _ _=>rfl)) zT (kj (L2.pv 3))) ax)))) cq)
   (aA (a9 (L2.pv 4))))))),?_⟩
  obtain⟨dr,Dt⟩:=S.rd
  refine⟨_,rfl,pr,dr,_,rfl,Dt,rfl,pr,v,ns,i,z,rfl,S.rd,S.il,hz,fun H1 r1 b1=>?_⟩
  have S1:=S.read b1 r1
  obtain⟨LF,qI⟩:=S1.rd
  refine⟨_,rfl,pr,LF,_,rfl,qI,rfl,pr,v,ns,i+1,m,rfl,S1.rd,S1.il,hm,fun H2 r2 b2=>?_⟩
  have S2:RG K CR C H2 pr v ns (i+2) q g:=S1.read b2 r2
  have f2:yY pr q H H2:=(b1.Hl).trans b2.Hl
  obtain⟨hg,g6,vc,hG,OW⟩:=id S2.gr
  obtain⟨dx,vP,vI,vN,vM,vS,G⟩:=id hG
  obtain⟨Vq,xn⟩:=S2.rd
  have Ga:=Sp.lz hg
  refine⟨_,rfl,q,dx,_,rfl,G.ins,rfl,_,rfl,q,g,vc,z,rfl,hG,_,rfl,?_⟩
  have DJ: ∀{H3:Hp}{D:Addr},yY pr q H H3→(∃o,H3 pr=some o)→(∃o,H3 q=some o)→H3 D=none→H D=none:=by
   rintro H3 D f ⟨o1,h1⟩ ⟨o2,h2⟩ hD
   exact D5 f (fun e=>by rw[e,h1]at hD;cases hD) (fun e=>by rw[e,h2]at hD;cases hD) hD
  cases hb:Rd01.below z (factsOf g).many with
  |false=>
   have ha:AD g z m=[-1]:=by unfold AD;rw[hb];rfl
   rw[ha]at k
   refine oi ⟨by show 1≤sizeLine;have:=bD;omega,fun D hD=>k _ D (S2.same (bq hD)) (f2.trans (a0.fr (bq hD))) (DJ f2 ⟨_,xn⟩ ⟨_,G.ins⟩ hD) au⟩
  |true=>
   obtain⟨a,rfl,ha⟩:=fJ hb
   obtain⟨Z2,Z3⟩:=Cg hg g6 ha
   obtain⟨sa,rfl,Rj⟩:=G.sz
   have RN:AD g (a:Int) m=((factsOf g).many:Int)::bj ((((factsOf g).chars (factsOf g).prime).getD a []).take (Rd01.room_ m 64)):=by
    unfold AD
    rw[hb,aO rfl,aY]
   refine rT ⟨_,rfl,q,C,dx,_,_,rfl,G.ins,R.cl,R.nS,o8 _ _ _ _ _ _ _ _,sa,_,rfl,.inl Rj,by show 1≤sizeLine;have:=bD;omega,fun D hD=>?_⟩
   rw[ae,pR]
   have Vi:=DJ f2 ⟨_,xn⟩ ⟨_,G.ins⟩ hD
   have e3:a0 H2 (upd H2 D (.lst [V.int ((factsOf g).many:Nat)])):=bq hD
   have xy:upd H2 D (.lst [V.int ((factsOf g).many:Nat)]) D=some (.lst [V.int ((factsOf g).many:Nat)]):=au
   generalize upd H2 D (.lst [V.int ((factsOf g).many:Nat)])=H3 at e3 xy
   have S3:=S2.same e3
   have f3:yY pr q H H3:=f2.trans (a0.fr e3)
   have kd: ¬(1≤m∧m≤64)→Q (.ref D) H3:=by
    intro hn
    refine k H3 D S3 f3 Vi ?_
    have QO:Rd01.room_ m 64=0:=by
     unfold Rd01.room_
     rw[aI]
     intro h'
     exact hn ⟨h'.1,by have:=h'.2;omega⟩
    rw[RN,QO,List.take_zero]
    exact xy
   refine⟨_,rfl,_,_,rfl,rfl,_,rfl,?_⟩
   refine gA (fun h1=>?_) (fun h1=>?_)
   ·refine⟨_,_,rfl,rfl,_,rfl,?_⟩
    refine gA (fun h2=>?_) (fun h2=>?_)
    ·have Hw:(1:Int)≤m:=of_decide_eq_true h1
     have QG:m≤(64:Int):=of_decide_eq_true h2
     obtain⟨mm,rfl⟩: ∃mm:Nat,m=(mm:Nat):=⟨m.toNat,by omega⟩
     have IE:Rd01.room_ (mm:Int) 64=mm:=by
      unfold Rd01.room_
      rw[aO ⟨Hw,by omega⟩,aY]
     rw[IE]at RN
     have ed:=NF hD e3
     refine⟨_,rfl,.inl ⟨rfl,_,cy.of xy⟩,_,rfl,q,g,vc,some D,rfl,hG.same ed,hg,g6,OW.imp id (fun t=>t.same ed),(by intro d hd;cases hd;rw[xy];intro h;cases h),fun v' H4 e4 Vr Vs=>?_⟩
     have hG4:=Vr.same (H':=H4) uY
     have Vt:=Vs.same (H':=H4) uY
     obtain⟨ta,ts,rfl,Z4,Z5⟩:=id Vt
     obtain⟨b,ke,Fh⟩:=FE Z5 Z2
     obtain⟨dq3,fs3,CM⟩:=S3.gr.ins
     have hDq:D≠q:=ub xy CM (by intro z;cases z)
     have yN:=e4 _ _ xy hDq
     have S4:RG K CR C H4 pr v ns (i+2) q g:=S3.chars e4 ⟨hg,g6,_,hG4,.inr Vt⟩
     refine⟨_,rfl,ta,_,_,_,rfl,rfl,Z4,at_of (j:=a) (v:=V.ref b) rfl (by rw[ag,ke];rfl),_,rfl,_,rfl,b,_,rfl,Fh,fun c hc=>?_⟩
     have Sb:D≠c:=aK yN hc
     obtain⟨dr4,aeA⟩:=S4.rd
     obtain⟨dq4,fs4,Td⟩:=S4.gr.ins
     refine⟨D,c,_,_,rfl,rfl,by rw[aE Sb];exact yN,au,?_,?_⟩
     ·have:=ug ((bj (((factsOf g).chars (factsOf g).prime).getD a [])).map V.int) none (some (mm:Int))
      rw[ae,bj,ae,Z3]at this
      have:=bD
      simp only[aC,oq]
      rw[bj]at*
      omega
     ·have e5:a0 H4 (upd H4 c (.lst (sY ((bj (((factsOf g).chars (factsOf g).prime).getD a [])).map V.int) none (some (mm:Int))))):=bq hc
      have S5:=S4.same e5
      have f5:=(f3.trans (ie.fr2 e4)).trans (a0.fr e5)
      refine⟨_,rfl,k _ D ?_ ?_ Vi ?_⟩
      ·obtain⟨dr5,Vu⟩:=S5.rd
       refine⟨⟨dr5,?_⟩,?_,?_,S.ne⟩
       ·rw[aE (ub Vu (e5 _ _ yN) (by intro z;cases z))]
        exact Vu
       ·refine ie.il (p:=q) (H:=H2) (fun y o hy Wv=>?_) G.ins S2.il
        rw[aE (aK hy hD)]
        exact e5 _ _ (e4 _ _ (e3 _ _ hy) Wv)
       ·have ef:=(Cd (D:=some D) e5).trans (ND (o:=.lst ([V.int ((factsOf g).many:Nat)]++sY ((bj (((factsOf g).chars (factsOf g).prime).getD a [])).map V.int) none (some (mm:Int)))))
        exact⟨hg,g6,_,Vr.same ef,.inr (Vs.same ef)⟩
      ·intro y o hy h1 h2
       rw[aE (aK hy Vi)]
       exact f5 y o hy h1 h2
      ·rw[au,RN,J1,bj,bj,a6,j3,j3]
       rfl
    ·exact⟨_,rfl,kd (fun h=>h2 (decide_eq_true h.2))⟩
   ·exact⟨_,rfl,rT ⟨_,rfl,kd (fun h=>h1 (decide_eq_true h.1))⟩⟩
end
end GT
end
section
namespace GT
open PySem PySem.Spec PyProof.Rows L2
open Rd01 (Grp factsOf)
section
variable{P:Program}{w:World}{K:W.Frag}{mg:Str→Option Value}{base:Heap}
def Hm(g:Grp)(i j a:Int):Int:=if(Rd01.below i (factsOf g).many&&(Rd01.below j (factsOf g).many&&Rd01.below a g.n))=true then((factsOf g).ways i.toNat j.toNat a.toNat:Int)else-1
def Vv(K:W.Frag)(CR C:Addr):Sp:=fun vs H Q _=>∃(q pr:Addr)(g:Grp)(v:V)(ns:List Int)(i:Nat)(x y z:Int),vs=[.ref q,.ref pr]∧RG K CR C H pr v ns i q g∧ns[i]? =some x∧ns[i+1]? =some y∧ns[i+2]? =some z∧
 ∀H':Hp,RG K CR C H' pr v ns (i+3) q g→yY pr q H H'→Q (.int (Hm g x y z)) H'
theorem FF:bf ["group","reader","first","second","thing"] ["group","reader"] (aB lW):=⟨rfl,rfl,rfl,by decide +kernel,rfl,by decide +kernel,by decide +kernel⟩
theorem Vw{f C CR:Addr}{fd:FuncData}{t:Tok}(F:f6 K "answer_ways" "answer_ways" lW f fd)(R:jK K C)(RR:wJ K CR)(hR:mg "REFUSED"=some (.int (-1) t))(m0:jX P w K mg base 1 CR "read_number" ["self"] (yI K CR))(m1:jX P w K mg base 1 C "has_class" ["self","number"] (nA K C))
  (m2:jX P w K mg base 1 C "has_thing" ["self","thing"] (sf K C))(c1:iJ P w K mg base 1 "ways_for_each" ["group","first","thing"] (Ap K C)):cF P w K mg base fT 2 f fd ["group","reader"] (Vv K CR C):=by
 refine F.ok FF (fun vs H Q E h=>?_) (fun eM A outer s H vs Q E hr h=>?_)
 ·obtain⟨q,pr,g,v,ns,i,x,y,z,rfl,_⟩:=h
  rfl
 ·obtain⟨q,pr,g,v,ns,i,x,y,z,rfl,S,hx,hy,hz,k⟩:=h
  refine⟨_,ak (bI (i:=2) FF.nd rfl (Or.inl rfl) (eX m0 RR.cl hr (L2.pv 1)))
   (ak (bI (i:=3) FF.nd rfl (Or.inl rfl) (eX m0 RR.cl hr (L2.pv 1)))
   (ak (bI (i:=4) FF.nd rfl (Or.inl rfl) (eX m0 RR.cl hr (L2.pv 1)))
   (ak (dR (PW.pt (Bs (iR (fH (eW m1 R.cl hr (L2.pv 0) (ah (L2.pv 2) ax)))) (Bs (iR (fH (eW m1 R.cl hr (L2.pv 0) (ah (L2.pv 3) ax)))) (zM (iR (fH (eW m2 R.cl hr (L2.pv 0) (ah (L2.pv 4) ax))))))))
    (aA (a9 (dC (v:=.int (-1)) rfl hR ⟨_,rfl⟩))) cq)
   (aA (a9 (cK bH (bQ c1 hr rfl (ah (L2.pv 0) (ah (L2.pv 2) (ah (L2.pv 4) ax)))) (L2.pv 3) (fun _ _=>rfl))))))),?_⟩
  obtain⟨dr,Dt⟩:=S.rd
  refine⟨_,rfl,pr,dr,_,rfl,Dt,rfl,pr,v,ns,i,x,rfl,S.rd,S.il,hx,fun H1 r1 b1=>?_⟩
  have S1:=S.read b1 r1
  obtain⟨LF,qI⟩:=S1.rd
  refine⟨_,rfl,pr,LF,_,rfl,qI,rfl,pr,v,ns,i+1,y,rfl,S1.rd,S1.il,hy,fun H2 r2 b2=>?_⟩
  have S2:RG K CR C H2 pr v ns (i+2) q g:=S1.read b2 r2
  obtain⟨Vq,xn⟩:=S2.rd
  refine⟨_,rfl,pr,Vq,_,rfl,xn,rfl,pr,v,ns,i+2,z,rfl,S2.rd,S2.il,hz,fun H3 r3 b3=>?_⟩
  have S3:RG K CR C H3 pr v ns (i+3) q g:=S2.read b3 r3
  have f3:yY pr q H H3:=((b1.Hl).trans b2.Hl).trans b3.Hl
  obtain⟨hg,g6,vc,hG,OW⟩:=id S3.gr
  obtain⟨dx,vP,vI,vN,vM,vS,G⟩:=id hG
  have kd:(Rd01.below x (factsOf g).many&&(Rd01.below y (factsOf g).many&&Rd01.below z g.n))=false→Q (.int (-1)) H3:=by
   intro h
   have:=k H3 S3 f3
   unfold Hm at this
   rw[h]at this
   exact this
  refine⟨_,rfl,q,dx,_,rfl,G.ins,rfl,_,rfl,q,g,vc,x,rfl,hG,_,rfl,?_⟩
  cases K2:Rd01.below x (factsOf g).many with
  |false=>exact oi (oi (kd (by rw[K2];rfl)))
  |true=>
   refine rT ⟨_,rfl,q,dx,_,rfl,G.ins,rfl,_,rfl,q,g,vc,y,rfl,hG,_,rfl,?_⟩
   cases LG:Rd01.below y (factsOf g).many with
   |false=>exact oi (oi (kd (by rw[K2,LG];rfl)))
   |true=>
    refine rT ⟨_,rfl,q,dx,_,rfl,G.ins,rfl,_,rfl,q,g,vc,z,rfl,hG,_,rfl,?_⟩
    cases Z6:Rd01.below z g.n with
    |false=>exact oi (kd (by rw[K2,LG,Z6];rfl))
    |true=>
     obtain⟨a,rfl,ha⟩:=fJ K2
     obtain⟨b,rfl,hb⟩:=fJ LG
     obtain⟨c,rfl,hc⟩:=fJ Z6
     refine rT ⟨_,rfl,_,rfl,_,rfl,q,g,vc,a,c,rfl,hG,hg,by omega,ha,hc,fun D H4 e4 hD yN=>?_⟩
     have hk:=k H4 (S3.same e4) (f3.trans (a0.fr e4))
     unfold Hm at hk
     rw[K2,LG,Z6]at hk
     refine⟨_,rfl,D,_,_,_,rfl,rfl,cy.of yN,at_of (j:=b) rfl ?_,hk⟩
     rw[sg,aU,ag,aX hb]
     rfl
def gy(g:Grp)(a m:Int):Int:=if(Rd01.below a g.n&&Rd01.below m 1001)=true then((factsOf g).roots a.toNat m.toNat:Int)else-1
def Vx(K:W.Frag)(CR C:Addr):Sp:=fun vs H Q _=>∃(q pr:Addr)(g:Grp)(v:V)(ns:List Int)(i:Nat)(x y:Int),vs=[.ref q,.ref pr]∧RG K CR C H pr v ns i q g∧ns[i]? =some x∧ns[i+1]? =some y∧
 ∀H':Hp,RG K CR C H' pr v ns (i+2) q g→yY pr q H H'→Q (.int (gy g x y)) H'
theorem Lh:bf ["group","reader","thing","power"] ["group","reader"] (aB kJ):=⟨rfl,rfl,rfl,by decide +kernel,rfl,by decide +kernel,by decide +kernel⟩
theorem Vy{f C CR:Addr}{fd:FuncData}{t t2:Tok}(F:f6 K "answer_roots" "answer_roots" kJ f fd)(R:jK K C)(RR:wJ K CR)(hR:mg "REFUSED"=some (.int (-1) t))(hM:mg "MOST_POWER"=some (.int 1000 t2))(m0:jX P w K mg base 1 CR "read_number" ["self"] (yI K CR))
  (m2:jX P w K mg base 1 C "has_thing" ["self","thing"] (sf K C))(c1:iJ P w K mg base 1 "count_roots" ["group","thing","power"] (Fl K C)):cF P w K mg base fT 2 f fd ["group","reader"] (Vx K CR C):=by
 refine F.ok Lh (fun vs H Q E h=>?_) (fun eM A outer s H vs Q E hr h=>?_)
 ·obtain⟨q,pr,g,v,ns,i,x,y,rfl,_⟩:=h
  rfl
 ·obtain⟨q,pr,g,v,ns,i,x,y,rfl,S,hx,hy,k⟩:=h
  refine⟨_,ak (bI (i:=2) Lh.nd rfl (Or.inl rfl) (eX m0 RR.cl hr (L2.pv 1)))
   (ak (bI (i:=3) Lh.nd rfl (Or.inl rfl) (eX m0 RR.cl hr (L2.pv 1)))
   (ak (dR (PW.pt (Bs (iR (fH (eW m2 R.cl hr (L2.pv 0) (ah (L2.pv 2) ax)))) (zM (iR (Bv uc uc bG (L2.pv 3) (dC (v:=.int 1000) rfl hM ⟨_,rfl⟩))))))
    (aA (a9 (dC (v:=.int (-1)) rfl hR ⟨_,rfl⟩))) cq)
   (aA (a9 (bQ c1 hr rfl (ah (L2.pv 0) (ah (L2.pv 2) (ah (L2.pv 3) ax)))))))),?_⟩
  obtain⟨dr,Dt⟩:=S.rd
  refine⟨_,rfl,pr,dr,_,rfl,Dt,rfl,pr,v,ns,i,x,rfl,S.rd,S.il,hx,fun H1 r1 b1=>?_⟩
  have S1:=S.read b1 r1
  obtain⟨LF,qI⟩:=S1.rd
  refine⟨_,rfl,pr,LF,_,rfl,qI,rfl,pr,v,ns,i+1,y,rfl,S1.rd,S1.il,hy,fun H3 r3 b3=>?_⟩
  have S3:RG K CR C H3 pr v ns (i+2) q g:=S1.read b3 r3
  have f3:yY pr q H H3:=(b1.Hl).trans b3.Hl
  obtain⟨hg,g6,vc,hG,OW⟩:=id S3.gr
  obtain⟨dx,vP,vI,vN,vM,vS,G⟩:=id hG
  have kd:(Rd01.below x g.n&&Rd01.below y 1001)=false→Q (.int (-1)) H3:=by
   intro h
   have:=k H3 S3 f3
   unfold gy at this
   rw[h]at this
   exact this
  refine⟨_,rfl,q,dx,_,rfl,G.ins,rfl,_,rfl,q,g,vc,x,rfl,hG,_,rfl,?_⟩
  cases K2:Rd01.below x g.n with
  |false=>exact oi (oi (kd (by rw[K2];rfl)))
  |true=>
   refine rT ⟨_,rfl,_,_,rfl,rfl,_,rfl,?_⟩
   obtain⟨a,rfl,ha⟩:=fJ K2
   refine gA (fun h1=>?_) (fun h1=>?_)
   ·have Hw:(0:Int)≤y:=of_decide_eq_true h1
    refine⟨_,_,rfl,rfl,_,rfl,?_⟩
    by_cases h2:y≤1000
    ·obtain⟨m,rfl⟩: ∃m:Nat,y=(m:Nat):=⟨y.toNat,by omega⟩
     have LG:Rd01.below (m:Int) 1001=true:=by
      unfold Rd01.below
      rw[decide_eq_true Hw,decide_eq_true (by omega)]
      rfl
     have e2:decide ((m:Int)≤1000)=true:=decide_eq_true h2
     show if(!decide ((m:Int)≤1000))=true then _ else _
     rw[e2]
     refine rT ⟨_,rfl,_,rfl,_,rfl,q,g,vc,a,m,rfl,hG,hg,by omega,by omega,fun H4 e4=>?_⟩
     have hk:=k H4 (S3.same e4) (f3.trans (a0.fr e4))
     unfold gy at hk
     rw[K2,LG]at hk
     exact hk
    ·have LG:Rd01.below y 1001=false:=by
      unfold Rd01.below
      rw[decide_eq_false (show¬y<((1001:Nat):Int) by omega),eO]
     have e2:decide (y≤1000)=false:=decide_eq_false h2
     show if(!decide (y≤1000))=true then _ else _
     rw[e2]
     exact oi (kd (by rw[LG,eO]))
   ·have LG:Rd01.below y 1001=false:=by
     unfold Rd01.below
     rw[fz]at h1
     rw[show decide (0≤y)=false from h1,jd]
    exact⟨_,rfl,oi (kd (by rw[LG,eO]))⟩
inductive Ab(g:Grp)(ns:List Int)(i:Nat):Int→Nat→Int→Prop
 |order:Ab g ns i 2 0 (g.n:Nat)
 |prime:Ab g ns i 3 0 ((factsOf g).prime:Nat)
 |classes:Ab g ns i 4 0 ((factsOf g).many:Nat)
 |class_ (a:Int):ns[i]? =some a→Ab g ns i 5 1 (if Rd01.below a g.n=true then((factsOf g).classOf a.toNat:Int)else-1)
 |size (a:Int):ns[i]? =some a→Ab g ns i 6 1 (if Rd01.below a (factsOf g).many=true then((factsOf g).sizeOf_ a.toNat:Int)else-1)
 |kind (a:Int):ns[i]? =some a→Ab g ns i 8 1 (if Rd01.below a (factsOf g).many=true then((factsOf g).kind (factsOf g).prime (((factsOf g).chars (factsOf g).prime).getD a.toNat []):Int)else-1)
 |ways (a b c:Int):ns[i]? =some a→ns[i+1]? =some b→ns[i+2]? =some c→Ab g ns i 9 3 (Hm g a b c)
 |pairs (a:Int):ns[i]? =some a→Ab g ns i 10 1 (if Rd01.below a g.n=true then((factsOf g).pairs a.toNat:Int)else-1)
 |roots (a m:Int):ns[i]? =some a→ns[i+1]? =some m→Ab g ns i 11 2 (gy g a m)
 |solvable:Ab g ns i 12 0 (Rd01.bit (factsOf g).solvable)
structure RO(mg:Str→Option Value):Prop where
 begin: ∃t,mg "BEGIN"=some (.int 0 t)
 table: ∃t,mg "TABLE"=some (.int 1 t)
 order: ∃t,mg "ORDER"=some (.int 2 t)
 prime: ∃t,mg "PRIME"=some (.int 3 t)
 classes: ∃t,mg "CLASSES"=some (.int 4 t)
 class_: ∃t,mg "CLASS"=some (.int 5 t)
 size: ∃t,mg "SIZE"=some (.int 6 t)
 character: ∃t,mg "CHARACTER"=some (.int 7 t)
 kind: ∃t,mg "KIND"=some (.int 8 t)
 ways: ∃t,mg "WAYS"=some (.int 9 t)
 pairs: ∃t,mg "PAIRS"=some (.int 10 t)
 roots: ∃t,mg "ROOTS"=some (.int 11 t)
 solvable: ∃t,mg "SOLVABLE"=some (.int 12 t)
def Vz(K:W.Frag)(CR C:Addr):Sp:=fun vs H Q _=>∃(q pr:Addr)(g:Grp)(v:V)(ns:List Int)(i kk:Nat)(c val:Int),vs=[.ref q,.int c,.ref pr]∧RG K CR C H pr v ns i q g∧Ab g ns i c kk val∧
 ∀H':Hp,RG K CR C H' pr v ns (i+kk) q g→yY pr q H H'→Q (.int val) H'
theorem VA:bf ["group","call","reader"] ["group","call","reader"] (aB kI):=⟨rfl,rfl,rfl,by decide +kernel,rfl,by decide +kernel,by decide +kernel⟩
theorem VB{f C CR:Addr}{fd:FuncData}(F:f6 K "answer_about" "answer_about" kI f fd)(T:Txt mg)(R:jK K C)(RR:wJ K CR)(TK:RO mg)(m0:jX P w K mg base 1 CR "read_number" ["self"] (yI K CR))
  (c5:iJ P w K mg base 2 "class_of" ["group","thing"] (FC K C))(c6:iJ P w K mg base 2 "size_of" ["group","number"] (FD K C))(c8:iJ P w K mg base 7 "kind" ["group","number"] (Lg K C))(c9:iJ P w K mg base 2 "answer_ways" ["group","reader"] (Vv K CR C))
  (Z7:iJ P w K mg base 4 "pairs" ["group","thing"] (Vn K C))(Z8:iJ P w K mg base 2 "answer_roots" ["group","reader"] (Vx K CR C))(Z9:iJ P w K mg base 4 "solvable" ["group"] (Lf K C)):cF P w K mg base fT 8 f fd ["group","call","reader"] (Vz K CR C):=by
 refine F.ok VA (fun vs H Q E h=>?_) (fun eM A outer s H vs Q E hr h=>?_)
 ·obtain⟨q,pr,g,v,ns,i,kk,c,val,rfl,_⟩:=h
  rfl
 ·obtain⟨q,pr,g,v,ns,i,kk,c,val,rfl,S,ab,k⟩:=h
  obtain⟨t2,h2⟩:=TK.order
  obtain⟨t3,h3⟩:=TK.prime
  obtain⟨t4,h4⟩:=TK.classes
  obtain⟨t5,h5⟩:=TK.class_
  obtain⟨t6,h6⟩:=TK.size
  obtain⟨t8,h8⟩:=TK.kind
  obtain⟨t9,h9⟩:=TK.ways
  obtain⟨t10,h10⟩:=TK.pairs
  obtain⟨t11,h11⟩:=TK.roots
  obtain⟨t12,h12⟩:=TK.solvable
  have tF:dY 1 _:=hr.mono (by omega)
  have yO:dY 2 _:=hr.mono (by omega)
  have Wk:dY 4 _:=hr.mono (by omega)
  refine⟨_,ak (dR (cJ iE (L2.pv 1) (dC (v:=.int 2) rfl h2 ⟨_,rfl⟩) (cW _)) (aA (a9 (bz (L2.pv 0) rfl))) cq)
   (ak (dR (cJ iE (L2.pv 1) (dC (v:=.int 3) rfl h3 ⟨_,rfl⟩) (cW _)) (aA (a9 (bz (L2.pv 0) rfl))) cq)
   (ak (dR (cJ iE (L2.pv 1) (dC (v:=.int 4) rfl h4 ⟨_,rfl⟩) (cW _)) (aA (a9 (bZ bN (by rfl) T.len bK (ah (bz (L2.pv 0) rfl) ax)))) cq)
   (ak (dR (cJ iE (L2.pv 1) (dC (v:=.int 5) rfl h5 ⟨_,rfl⟩) (cW _)) (aA (a9 (bQ c5 yO rfl (ah (L2.pv 0) (ah (eX m0 RR.cl tF (L2.pv 2)) ax))))) cq)
   (ak (dR (cJ iE (L2.pv 1) (dC (v:=.int 6) rfl h6 ⟨_,rfl⟩) (cW _)) (aA (a9 (bQ c6 yO rfl (ah (L2.pv 0) (ah (eX m0 RR.cl tF (L2.pv 2)) ax))))) cq)
   (ak (dR (cJ iE (L2.pv 1) (dC (v:=.int 8) rfl h8 ⟨_,rfl⟩) (cW _)) (aA (a9 (bQ c8 hr rfl (ah (L2.pv 0) (ah (eX m0 RR.cl tF (L2.pv 2)) ax))))) cq)
   (ak (dR (cJ iE (L2.pv 1) (dC (v:=.int 9) rfl h9 ⟨_,rfl⟩) (cW _)) (aA (a9 (bQ c9 yO rfl (ah (L2.pv 0) (ah (L2.pv 2) ax))))) cq)
   (ak (dR (cJ iE (L2.pv 1) (dC (v:=.int 10) rfl h10 ⟨_,rfl⟩) (cW _)) (aA (a9 (bQ Z7 Wk rfl (ah (L2.pv 0) (ah (eX m0 RR.cl tF (L2.pv 2)) ax))))) cq)
   (ak (dR (cJ iE (L2.pv 1) (dC (v:=.int 11) rfl h11 ⟨_,rfl⟩) (cW _)) (aA (a9 (bQ Z8 yO rfl (ah (L2.pv 0) (ah (L2.pv 2) ax))))) cq)
   (ak (dR (cJ iE (L2.pv 1) (dC (v:=.int 12) rfl h12 ⟨_,rfl⟩) (cW _)) (aA (a9 (bQ Z9 Wk rfl (ah (L2.pv 0) ax)))) cq)
   (aA Ja)))))))))),?_⟩
  obtain⟨hg,g6,vc,hG,OW⟩:=id S.gr
  obtain⟨dx,vP,vI,vN,vM,vS,G⟩:=id hG
  obtain⟨dr,Dt⟩:=S.rd
  have k0: ∀H',RG K CR C H' pr v ns (i+kk) q g→yY pr q H H'→Q (.int val) H':=k
  cases ab with
  |order=>
   refine⟨_,rfl,rfl,_,rfl,Hj rfl ?_⟩
   exact⟨_,rfl,q,C,dx,_,_,rfl,G.ins,R.cl,R.nO,jL _ _ _ _ _ _ _ _,k H S (a0.fr a0.refl)⟩
  |prime=>
   refine⟨_,rfl,rfl,_,rfl,jY (by decide) ?_⟩
   refine⟨_,rfl,rfl,_,rfl,Hj rfl ?_⟩
   exact⟨_,rfl,q,C,dx,_,_,rfl,G.ins,R.cl,R.nR,kR _ _ _ _ _ _ _ _,k H S (a0.fr a0.refl)⟩
  |classes=>
   refine⟨_,rfl,rfl,_,rfl,jY (by decide) ?_⟩
   refine⟨_,rfl,rfl,_,rfl,jY (by decide) ?_⟩
   refine⟨_,rfl,rfl,_,rfl,Hj rfl ?_⟩
   obtain⟨sa,rfl,Rj⟩:=G.sz
   refine⟨_,rfl,q,C,dx,_,_,rfl,G.ins,R.cl,R.nS,o8 _ _ _ _ _ _ _ _,sa,_,rfl,.inl Rj,?_⟩
   rw[ae,pR]
   exact k H S (a0.fr a0.refl)
  |class_ a ha=>
   refine⟨_,rfl,rfl,_,rfl,jY (by decide) ?_⟩
   refine⟨_,rfl,rfl,_,rfl,jY (by decide) ?_⟩
   refine⟨_,rfl,rfl,_,rfl,jY (by decide) ?_⟩
   refine⟨_,rfl,rfl,_,rfl,Hj rfl ?_⟩
   refine⟨_,rfl,_,rfl,pr,dr,_,rfl,Dt,rfl,pr,v,ns,i,a,rfl,S.rd,S.il,ha,fun H1 r1 b1=>?_⟩
   have S1:=S.read b1 r1
   obtain⟨_,_,VC,NR,_⟩:=id S1.gr
   exact⟨q,g,VC,a,rfl,NR,k H1 S1 b1.Hl⟩
  |size a ha=>
   refine⟨_,rfl,rfl,_,rfl,jY (by decide) ?_⟩
   refine⟨_,rfl,rfl,_,rfl,jY (by decide) ?_⟩
   refine⟨_,rfl,rfl,_,rfl,jY (by decide) ?_⟩
   refine⟨_,rfl,rfl,_,rfl,jY (by decide) ?_⟩
   refine⟨_,rfl,rfl,_,rfl,Hj rfl ?_⟩
   refine⟨_,rfl,_,rfl,pr,dr,_,rfl,Dt,rfl,pr,v,ns,i,a,rfl,S.rd,S.il,ha,fun H1 r1 b1=>?_⟩
   have S1:=S.read b1 r1
   obtain⟨_,_,VC,NR,_⟩:=id S1.gr
   exact⟨q,g,VC,a,rfl,NR,k H1 S1 b1.Hl⟩
  |kind a ha=>
   refine⟨_,rfl,rfl,_,rfl,jY (by decide) ?_⟩
   refine⟨_,rfl,rfl,_,rfl,jY (by decide) ?_⟩
   refine⟨_,rfl,rfl,_,rfl,jY (by decide) ?_⟩
   refine⟨_,rfl,rfl,_,rfl,jY (by decide) ?_⟩
   refine⟨_,rfl,rfl,_,rfl,jY (by decide) ?_⟩
   refine⟨_,rfl,rfl,_,rfl,Hj rfl ?_⟩
   refine⟨_,rfl,_,rfl,pr,dr,_,rfl,Dt,rfl,pr,v,ns,i,a,rfl,S.rd,S.il,ha,fun H1 r1 b1=>?_⟩
   have S1:=S.read b1 r1
   exact⟨q,g,a,rfl,S1.gr,fun H2 e2 hO2=>k H2 (S1.chars e2 hO2) ((b1.Hl).trans e2.fr2)⟩
  |ways a b c ha hb hc=>
   refine⟨_,rfl,rfl,_,rfl,jY (by decide) ?_⟩
   refine⟨_,rfl,rfl,_,rfl,jY (by decide) ?_⟩
   refine⟨_,rfl,rfl,_,rfl,jY (by decide) ?_⟩
   refine⟨_,rfl,rfl,_,rfl,jY (by decide) ?_⟩
   refine⟨_,rfl,rfl,_,rfl,jY (by decide) ?_⟩
   refine⟨_,rfl,rfl,_,rfl,jY (by decide) ?_⟩
   refine⟨_,rfl,rfl,_,rfl,Hj rfl ?_⟩
   exact⟨_,rfl,_,rfl,q,pr,g,v,ns,i,a,b,c,rfl,S,ha,hb,hc,k⟩
  |pairs a ha=>
   refine⟨_,rfl,rfl,_,rfl,jY (by decide) ?_⟩
   refine⟨_,rfl,rfl,_,rfl,jY (by decide) ?_⟩
   refine⟨_,rfl,rfl,_,rfl,jY (by decide) ?_⟩
   refine⟨_,rfl,rfl,_,rfl,jY (by decide) ?_⟩
   refine⟨_,rfl,rfl,_,rfl,jY (by decide) ?_⟩
   refine⟨_,rfl,rfl,_,rfl,jY (by decide) ?_⟩
   refine⟨_,rfl,rfl,_,rfl,jY (by decide) ?_⟩
   refine⟨_,rfl,rfl,_,rfl,Hj rfl ?_⟩
   refine⟨_,rfl,_,rfl,pr,dr,_,rfl,Dt,rfl,pr,v,ns,i,a,rfl,S.rd,S.il,ha,fun H1 r1 b1=>?_⟩
   have S1:=S.read b1 r1
   obtain⟨_,_,VC,NR,_⟩:=id S1.gr
   exact⟨q,g,VC,a,rfl,NR,hg,g6,fun H2 e2=>k H2 (S1.same e2) ((b1.Hl).trans (a0.fr e2))⟩
  |roots a m ha hm=>
   refine⟨_,rfl,rfl,_,rfl,jY (by decide) ?_⟩
   refine⟨_,rfl,rfl,_,rfl,jY (by decide) ?_⟩
   refine⟨_,rfl,rfl,_,rfl,jY (by decide) ?_⟩
   refine⟨_,rfl,rfl,_,rfl,jY (by decide) ?_⟩
   refine⟨_,rfl,rfl,_,rfl,jY (by decide) ?_⟩
   refine⟨_,rfl,rfl,_,rfl,jY (by decide) ?_⟩
   refine⟨_,rfl,rfl,_,rfl,jY (by decide) ?_⟩
   refine⟨_,rfl,rfl,_,rfl,jY (by decide) ?_⟩
   refine⟨_,rfl,rfl,_,rfl,Hj rfl ?_⟩
   exact⟨_,rfl,_,rfl,q,pr,g,v,ns,i,a,m,rfl,S,ha,hm,k⟩
  |solvable=>
   refine⟨_,rfl,rfl,_,rfl,jY (by decide) ?_⟩
   refine⟨_,rfl,rfl,_,rfl,jY (by decide) ?_⟩
   refine⟨_,rfl,rfl,_,rfl,jY (by decide) ?_⟩
   refine⟨_,rfl,rfl,_,rfl,jY (by decide) ?_⟩
   refine⟨_,rfl,rfl,_,rfl,jY (by decide) ?_⟩
   refine⟨_,rfl,rfl,_,rfl,jY (by decide) ?_⟩
   refine⟨_,rfl,rfl,_,rfl,jY (by decide) ?_⟩
   refine⟨_,rfl,rfl,_,rfl,jY (by decide) ?_⟩
   refine⟨_,rfl,rfl,_,rfl,jY (by decide) ?_⟩
   refine⟨_,rfl,rfl,_,rfl,Hj rfl ?_⟩
   exact⟨_,rfl,q,g,vc,rfl,hG,hg,g6,fun H2 e2=>k H2 (S.same e2) (a0.fr e2)⟩
end
end GT
end
section
namespace GT
open PySem PySem.Spec PyProof.Rows L2
open Rd01 (Grp factsOf)
def D6(d:Addr)(o:Obj):Heap→Prop:=fun h=>h.get? d=some o
def VD(xs:List V)(o:Obj):Prop:=xs.length≤sizeLine∧∃(cw:List Value)(n:Nat),Vals xs cw∧o={cls:=.type "list",data:=.seq cw.toArray n}
section
variable{X:Cx}{pins:List (Addr×Obj)}{σ:L2.St}{H:Hp}{s:Shared}{d:Addr}{xs:List V}
theorem NS(I:Inv X pins σ H s)(hd:H d=some (.lst xs)): ∃o,VD xs o∧Inv X pins σ (upd H d (.ext (D6 d o))) s:=by
 obtain⟨hz,cw,n,rv,ho⟩:=I.eZ d _ hd
 refine⟨_,⟨hz,cw,n,rv,rfl⟩,?_⟩
 exact I.write (x:=d) (e:=d) (t':=s.toks) (by rw[hd];trivial) (.inl rfl) (fun b u _ q=>q) ⟨_,ho⟩ ⟨ho,⟨_,ho⟩,fun h1 h2 q1 q2=>q2 _ q1⟩
theorem Hn{o:Obj}(I:Inv X pins σ H s)(hd:H d=some (.ext (D6 d o)))(ho:VD xs o):Inv X pins σ (upd H d (.lst xs)) s:=by
 obtain⟨hp,⟨o',zJ⟩,_⟩:=I.eZ d _ hd
 obtain⟨hz,cw,n,rv,e⟩:=ho
 have hg:s.heap.get? d=some o:=hp
 refine I.write (x:=d) (e:=d) (t':=s.toks) (by rw[hd];trivial) (.inl rfl) (fun b u _ q=>q) ⟨_,hg⟩ ⟨hz,cw,n,rv,?_⟩
 rw[hg,e]
def aaa(t:TE):TE:=fun σ H Q=>∃d xs,H d=some (.lst xs)∧∀o,t σ (upd H d (.ext (D6 d o))) fun v H'=>H' d=some (.ext (D6 d o))∧Q v (upd H' d (.lst xs))
theorem RP{e:Expr}{t:TE}(h:PE X e t):PE X e (aaa t):=by
 intro pins s σ H Q I hw
 obtain⟨d,xs,hd,hw⟩:=hw
 obtain⟨o,ho,I1⟩:=NS I hd
 refine eQ (h pins s σ _ _ I1 (hw o)) fun v s1⟨x,H1,I2,r,e2,q⟩=>?_
 exact⟨x,_,Hn I2 e2 ho,r,q⟩
end
structure jM(T:Addr)(H H':Hp):Prop where
 ext: ∃φ,H T=some (.ext φ)
 keep: ∀b o,H b=some o→b≠T→H' b=some o
theorem jM.upd{T:Addr}{H:Hp}{φ:Heap→Prop}{o:HO}(h:H T=some (.ext φ)):jM T H (L2.upd H T o):=⟨⟨φ,h⟩,fun b u hb df=>by rw[aE df];exact hb⟩
section
variable{K:W.Frag}{T:Addr}{H H':Hp}
theorem jM.seq{a:Addr}{xs:List V}(e:jM T H H')(h:cy K H a xs):cy K H' a xs:=by
 obtain⟨φ,hT⟩:=e.ext
 rcases h with(h|⟨o,h⟩)|h
 ·exact .inl (.inl (e.keep _ _ h (fun z=>by rw[z,hT]at h;cases h)))
 ·exact .inl (.inr ⟨o,e.keep _ _ h (fun z=>by rw[z,hT]at h;cases h)⟩)
 ·exact .inr h
theorem jM.rows(e:jM T H H'): ∀{as:List Addr}{rs:List (List Int)},eA K H as rs→eA K H' as rs
 |[],[],h=>h
 |a::as,r::rs,h=>⟨e.seq h.1,jM.rows e h.2⟩
 |[],_::_,h=>h.elim
 |_::_,[],h=>h.elim
theorem jM.il{v:V}{ns:List Int}(e:jM T H H')(h:IL K H v ns):IL K H' v ns:=by
 obtain⟨a,rfl,h⟩:=h
 exact⟨a,rfl,e.seq h⟩
theorem jM.tl{v:V}{rs:List (List Int)}(e:jM T H H')(h:TL K H v rs):TL K H' v rs:=by
 obtain⟨a,as,rfl,h1,h2⟩:=h
 exact⟨a,as,rfl,e.seq h1,e.rows h2⟩
theorem jM.ins{q C dx:Addr}{fs:List (Str×V)}(e:jM T H H')(h:H q=some (.ins C dx fs)):H' q=some (.ins C dx fs):=by
 obtain⟨φ,hT⟩:=e.ext
 exact e.keep _ _ h (fun z=>by rw[z,hT]at h;cases h)
theorem jM.gok{C q:Addr}{g:Grp}(e:jM T H H')(h:Fx K C H q g):Fx K C H' q g:=by
 obtain⟨h1,h2,vc,⟨dx,vP,vI,vN,vM,vS,G⟩,h4⟩:=h
 exact⟨h1,h2,vc,⟨dx,vP,vI,vN,vM,vS,e.ins G.ins,e.tl G.pr,e.il G.iv,e.il G.nm,e.tl G.mb,e.il G.sz⟩,h4.imp id fun t=>e.tl t⟩
end
structure MS(K:W.Frag)(CR CL C:Addr)(H:Hp)(pr:Addr)(v:V)(ns:List Int)(i:Nat)(l q:Addr)(g:Grp):Prop where
 rg:RG K CR C H pr v ns i q g
 ln:Hk CL H l q
 n1:l≠pr
 n2:q≠l
theorem MS.VE{K:W.Frag}{CR CL C:Addr}{H H':Hp}{pr:Addr}{v:V}{ns:List Int}{i:Nat}{l q T:Addr}{g:Grp}(e:jM T H H')(S:MS K CR CL C H pr v ns i l q g):MS K CR CL C H' pr v ns i l q g:=by
 obtain⟨⟨⟨dr,hr⟩,h2,h3,h4⟩,⟨dl,hl⟩,n1,n2⟩:=S
 exact⟨⟨⟨dr,e.ins hr⟩,e.il h2,e.gok h3,h4⟩,⟨dl,e.ins hl⟩,n1,n2⟩
theorem MS.same{K:W.Frag}{CR CL C:Addr}{H H':Hp}{pr:Addr}{v:V}{ns:List Int}{i:Nat}{l q:Addr}{g:Grp}(e:a0 H H')(S:MS K CR CL C H pr v ns i l q g):MS K CR CL C H' pr v ns i l q g:=by
 obtain⟨h1,⟨dl,hl⟩,n1,n2⟩:=S
 exact⟨h1.same e,⟨dl,e _ _ hl⟩,n1,n2⟩
def Ho(a b c:Addr)(H H':Hp):Prop:=∀y o,H y=some o→y≠a→y≠b→y≠c→H' y=some o
theorem yY.Gi{l a b:Addr}{H H':Hp}(e:yY a b H H'):Ho l a b H H':=fun y o h _ h1 h2=>e y o h h1 h2
theorem Ho.trans{a b c:Addr}{H H1 H2:Hp}(e:Ho a b c H H1)(e':Ho a b c H1 H2):Ho a b c H H2:=fun y o h h1 h2 h3=>e' y o (e y o h h1 h2 h3) h1 h2 h3
theorem a0.Gi{a b c:Addr}{H H':Hp}(e:a0 H H'):Ho a b c H H':=fun y o h _ _ _=>e y o h
inductive Hq(g:Grp)(ns:List Int)(i:Nat):Grp→List Int→Nat→Prop
 |begin:ns[i]? =some 0→Hq g ns i g1 [0] (i+1)
 |table (m:Nat):ns[i]? =some 1→ns[i+1]? =some (m:Int)→i+2+m≤ns.length→(∀x∈(ns.drop (i+2)).take m,0≤x)→m≤576→
   Hq g ns i ((xW ((ns.drop (i+2)).take m)).getD g) [match xW ((ns.drop (i+2)).take m)with|some g'=>(g'.n:Int)|none=> -1] (i+2+m)
 |char (z m:Int):ns[i]? =some 7→ns[i+1]? =some z→ns[i+2]? =some m→Hq g ns i g (AD g z m) (i+3)
 |about (c:Int) (kk:Nat) (val:Int):ns[i]? =some c→Ab g ns (i+1) c kk val→Hq g ns i g [val] (i+1+kk)
section
variable{P:Program}{w:World}{K:W.Frag}{mg:Str→Option Value}{base:Heap}
def FG(K:W.Frag)(CR CL C:Addr):Sp:=fun vs H Q _=>∃(l pr q:Addr)(g g':Grp)(v:V)(ns k6:List Int)(i i':Nat),vs=[.ref l,.ref pr]∧MS K CR CL C H pr v ns i l q g∧Hq g ns i g' k6 i'∧
 ∀(H':Hp)(D q':Addr),MS K CR CL C H' pr v ns i' l q' g'→Ho l pr q H H'→H D=none→H' D=some (.lst (k6.map V.int))→Q (.ref D) H'
theorem Ci:bf ["line","reader","call"] ["line","reader"] (aB lV):=⟨rfl,rfl,rfl,by decide +kernel,rfl,by decide +kernel,by decide +kernel⟩
theorem NT{g:Grp}{ns:List Int}{i kk:Nat}{c val:Int}(h:Ab g ns i c kk val):c≠7∧c≠0∧c≠1:=by
 cases h<;>decide
theorem tM{a b:Int}(h:a≠b): ¬(V.int a=V.int b):=fun e=>h (by injection e)
theorem Li{f C CR CL:Addr}{fd:FuncData}(F:f6 K "answer_call" "answer_call" lV f fd)(TK:RO mg)(RR:wJ K CR)(RL:K1 K CL)(m0:jX P w K mg base 1 CR "read_number" ["self"] (yI K CR))(m1:jX P w K mg base 1 CR "read_row" ["self"] (OC K CR))
  (c1:iJ P w K mg base 7 "answer_character" ["group","reader"] (OZ K CR C))(c2:iJ P w K mg base 6 "begin" ["line"] (Fz K CL C))(c3:iJ P w K mg base 5 "take_table" ["line","numbers"] (K8 K CL C))(c4:iJ P w K mg base 8 "answer_about" ["group","call","reader"] (Vz K CR C)):cF P w K mg base fT 9 f fd ["line","reader"] (FG K CR CL C):=by
 refine F.ok Ci (fun vs H Q E h=>?_) (fun eM A outer s H vs Q E hr h=>?_)
 ·obtain⟨l,pr,q,g,g',v,ns,k6,i,i',rfl,_⟩:=h
  rfl
 ·obtain⟨l,pr,q,g,g',v,ns,k6,i,i',rfl,S,st,k⟩:=h
  obtain⟨t0,h0⟩:=TK.begin
  obtain⟨t1,h1⟩:=TK.table
  obtain⟨t7,h7⟩:=TK.character
  have tF:dY 1 _:=hr.mono (by omega)
  have hr5:dY 5 _:=hr.mono (by omega)
  have hr6:dY 6 _:=hr.mono (by omega)
  have hr7:dY 7 _:=hr.mono (by omega)
  refine⟨_,ak (bI (i:=2) Ci.nd rfl (Or.inl rfl) (eX m0 RR.cl tF (L2.pv 1)))
   (ak (dR (cJ iE (L2.pv 2) (dC (v:=.int 7) rfl h7 ⟨_,rfl⟩) (cW _)) (aA (a9 (bQ c1 hr7 rfl (ah (bz (L2.pv 0) rfl) (ah (L2.pv 1) ax))))) cq)
   (ak (dR (cJ iE (L2.pv 2) (dC (v:=.int 0) rfl h0 ⟨_,rfl⟩) (cW _)) (aA (a9 (gd (ah (bQ c2 hr6 rfl (ah (L2.pv 0) ax)) ax)))) cq)
   (ak (dR (cJ iE (L2.pv 2) (dC (v:=.int 1) rfl h1 ⟨_,rfl⟩) (cW _)) (aA (a9 (gd (ah (bQ c3 hr5 rfl (ah (L2.pv 0) (ah (eX m1 RR.cl tF (L2.pv 1)) ax))) ax)))) cq)
   (aA (a9 (gd (ah (bQ c4 hr rfl (ah (bz (L2.pv 0) rfl) (ah (L2.pv 2) (ah (L2.pv 1) ax)))) ax))))))),?_⟩
  obtain⟨dr,Dt⟩:=S.rg.rd
  obtain⟨dl,hl⟩:=S.ln
  obtain⟨x,hx⟩: ∃x,ns[i]? =some x:=by
   cases st with
   |begin h=>exact⟨_,h⟩
   |table m h=>exact⟨_,h⟩
   |char z m h=>exact⟨_,h⟩
   |about c kk val h=>exact⟨_,h⟩
  refine⟨_,rfl,pr,dr,_,rfl,Dt,rfl,pr,v,ns,i,x,rfl,S.rg.rd,S.rg.il,hx,fun H1 r1 b1=>?_⟩
  have S1:=S.rg.read b1 r1
  have Cn:H1 l=some (.ins CL dl [("group",.ref q)]):=b1 _ _ hl S.n1
  obtain⟨LF,qI⟩:=S1.rd
  have f1:Ho l pr q H H1:=(b1.Hl).Gi
  have one:1≤sizeLine:=by have:=bD;omega
  obtain⟨dq1,fq1,Ln⟩:=S1.gr.ins
  have QD: ∀{H2:Hp}{D:Addr},Ho l pr q H H2→(∃o,H2 l=some o)→(∃o,H2 pr=some o)→(∃o,H2 q=some o)→H2 D=none→H D=none:=by
   rintro H2 D fr ⟨o1,e1⟩ ⟨o2,e2⟩ ⟨o3,e3⟩ hD
   cases e5:H D with
   |none=>rfl
   |some u=>
    rw[fr _ _ e5 (fun e=>by rw[e,e1]at hD;cases hD) (fun e=>by rw[e,e2]at hD;cases hD) (fun e=>by rw[e,e3]at hD;cases hD)]at hD
    cases hD
  cases st with
  |char z m h hz hm=>
   rw[h]at hx
   cases hx
   refine⟨_,rfl,rfl,_,rfl,Hj rfl ?_⟩
   refine⟨_,rfl,l,CL,dl,_,_,rfl,Cn,RL.cl,RL.nG,rfl,_,rfl,q,pr,g,v,ns,i+1,z,m,rfl,S1,hz,hm,fun H2 D S2 f2 hD o6=>?_⟩
   refine k H2 D q ⟨S2,⟨dl,f2 _ _ Cn S.n1 S.n2.symm⟩,S.n1,S.n2⟩ (f1.trans f2.Gi) (QD f1 ⟨_,Cn⟩ ⟨_,qI⟩ ⟨_,Ln⟩ hD) o6
  |begin h=>
   rw[h]at hx
   cases hx
   refine⟨_,rfl,rfl,_,rfl,jY (tM (by decide)) ?_⟩
   refine⟨_,rfl,rfl,_,rfl,Hj rfl ?_⟩
   refine⟨_,rfl,l,q,rfl,⟨dl,Cn⟩,fun H2 y b2 hy VF hG=>?_⟩
   refine⟨one,fun D hD=>?_⟩
   obtain⟨dl2,oE⟩:=VF
   have Si:y≠l:=fun e=>by rw[e,Cn]at hy;cases hy
   have hyp:y≠pr:=fun e=>by rw[e,qI]at hy;cases hy
   have S2:MS K CR CL C H2 pr v ns (i+1) l y g1:=⟨⟨⟨LF,b2 _ _ qI S.n1.symm⟩,b2.il Cn S1.il,⟨K0,by decide,_,hG,.inl rfl⟩,hyp⟩,⟨dl2,oE⟩,S.n1,Si⟩
   have f2:Ho l pr q H H2:=f1.trans fun y' o h h1 _ _=>b2 _ _ h h1
   refine k _ D y (S2.same (bq hD)) (f2.trans (a0.Gi (bq hD))) (QD f2 ⟨_,oE⟩ ⟨_,b2 _ _ qI S.n1.symm⟩ ⟨_,b2 _ _ Ln S.n2⟩ hD) au
  |table m h hm hle Il VG=>
   rw[h]at hx
   cases hx
   refine⟨_,rfl,rfl,_,rfl,jY (tM (by decide)) ?_⟩
   refine⟨_,rfl,rfl,_,rfl,jY (tM (by decide)) ?_⟩
   refine⟨_,rfl,rfl,_,rfl,Hj rfl ?_⟩
   refine⟨_,rfl,_,rfl,pr,LF,_,rfl,qI,rfl,pr,v,ns,i+1,m,rfl,S1.rd,S1.il,hm,by omega,fun H2 v' r2 b2 xN=>?_⟩
   have S2:RG K CR C H2 pr v ns (i+2+m) q g:=S1.read b2 (by rw[show i+1+1+m=i+2+m by omega]at r2;exact r2)
   have oE:H2 l=some (.ins CL dl [("group",.ref q)]):=b2 _ _ Cn S.n1
   obtain⟨Vq,xn⟩:=S2.rd
   obtain⟨dq2,fq2,FY⟩:=S2.gr.ins
   have f2:Ho l pr q H H2:=f1.trans (b2.Hl).Gi
   rw[show i+1+1=i+2 by omega]at xN
   have kZ:((ns.drop (i+2)).take m).length≤576:=by
    rw[cT]
    omega
   refine⟨l,q,v',(ns.drop (i+2)).take m,rfl,⟨dl,oE⟩,xN,Il,kZ,fun hT H3 e3=>?_,fun g2 H3 y hT b3 hy VF hG=>?_⟩
   ·refine⟨one,fun D hD=>?_⟩
    rw[hT]at k
    have S3:MS K CR CL C H3 pr v ns (i+2+m) l q g:=⟨S2.same e3,⟨dl,e3 _ _ oE⟩,S.n1,S.n2⟩
    have f3:=f2.trans (a0.Gi e3)
    exact k _ D q (S3.same (bq hD)) (f3.trans (a0.Gi (bq hD))) (QD f3 ⟨_,e3 _ _ oE⟩ ⟨_,e3 _ _ xn⟩ ⟨_,e3 _ _ FY⟩ hD) au
   ·refine⟨one,fun D hD=>?_⟩
    rw[hT]at k
    obtain⟨hg2,aac⟩:=yX hT kZ
    obtain⟨dl3,OP⟩:=VF
    have Si:y≠l:=fun e=>by rw[e,oE]at hy;cases hy
    have hyp:y≠pr:=fun e=>by rw[e,xn]at hy;cases hy
    have S3:MS K CR CL C H3 pr v ns (i+2+m) l y g2:=⟨⟨⟨Vq,b3 _ _ xn S.n1.symm⟩,b3.il oE S2.il,⟨hg2,aac,_,hG,.inl rfl⟩,hyp⟩,⟨dl3,OP⟩,S.n1,Si⟩
    have f3:Ho l pr q H H3:=f2.trans fun y' o h h1 _ _=>b3 _ _ h h1
    exact k _ D y (S3.same (bq hD)) (f3.trans (a0.Gi (bq hD))) (QD f3 ⟨_,OP⟩ ⟨_,b3 _ _ xn S.n1.symm⟩ ⟨_,b3 _ _ FY S.n2⟩ hD) au
  |about c kk val h ab=>
   rw[h]at hx
   cases hx
   obtain⟨n7,n0,n1'⟩:=NT ab
   refine⟨_,rfl,rfl,_,rfl,jY (tM n7) ?_⟩
   refine⟨_,rfl,rfl,_,rfl,jY (tM n0) ?_⟩
   refine⟨_,rfl,rfl,_,rfl,jY (tM n1') ?_⟩
   refine⟨_,rfl,l,CL,dl,_,_,rfl,Cn,RL.cl,RL.nG,rfl,_,rfl,_,rfl,q,pr,g,v,ns,i+1,kk,_,val,rfl,S1,ab,fun H2 S2 f2=>?_⟩
   refine⟨one,fun D hD=>?_⟩
   obtain⟨Vq,xn⟩:=S2.rd
   obtain⟨dq2,fq2,FY⟩:=S2.gr.ins
   have oE:=f2 _ _ Cn S.n1 S.n2.symm
   have S3:MS K CR CL C H2 pr v ns (i+1+kk) l q g:=⟨S2,⟨dl,oE⟩,S.n1,S.n2⟩
   have f3:Ho l pr q H H2:=f1.trans f2.Gi
   exact k _ D q (S3.same (bq hD)) (f3.trans (a0.Gi (bq hD))) (QD f3 ⟨_,oE⟩ ⟨_,xn⟩ ⟨_,FY⟩ hD) au
inductive Run(ns:List Int):Grp→Nat→List Int→Prop
 |nil (g:Grp) (i:Nat):ns.length≤i→Run ns g i []
 |cons (g g':Grp) (i i':Nat) (k6 out:List Int):i<ns.length→i<i'→Hq g ns i g' k6 i'→Run ns g' i' out→Run ns g i ((k6.length:Int)::k6++out)
def tN(K:W.Frag):Sp:=fun vs H Q _=>∃(v:V)(ns out:List Int),vs=[v]∧IL K H v ns∧Run ns g1 0 out∧out.length≤100000∧∀(H':Hp)(p:Addr),H' p=some (.lst (out.map V.int))→Q (.ref p) H'
theorem kW:bf ["calls","reader","line","told","numbers"] ["calls"] (aB jq):=⟨rfl,rfl,rfl,by decide +kernel,rfl,by decide +kernel,by decide +kernel⟩
theorem D7{f C CR CL:Addr}{fd:FuncData}(F:f6 K "answers" "answers" jq f fd)(T:Txt mg)(RR:wJ K CR)(k1:BR P w K mg base 1 "Reader" CR ["self","numbers"] (E2 CR))(k2:BR P w K mg base 6 "Line" CL ["self"] (Fy K CL C))(m1:jX P w K mg base 1 CR "at_end" ["self"] (E3 K CR))
  (c1:iJ P w K mg base 9 "answer_call" ["line","reader"] (FG K CR CL C)):cF P w K mg base fT 10 f fd ["calls"] (tN K):=by
 refine F.ok kW (fun vs H Q E h=>?_) (fun eM A outer s H vs Q E hr h=>?_)
 ·obtain⟨v,ns,out,rfl,_⟩:=h
  rfl
 ·obtain⟨v,ns,out,rfl,⟨ca,rfl,hca⟩,aad,Wy,k⟩:=h
  have tF:dY 1 _:=hr.mono (by omega)
  have yO:dY 2 _:=hr.mono (by omega)
  have hr7:dY 7 _:=hr.mono (by omega)
  refine⟨_,ak (bI (i:=1) kW.nd rfl (Or.inl rfl) (uR k1 yO rfl (ah (L2.pv 0) ax)))
   (ak (bI (i:=2) kW.nd rfl (Or.inl rfl) (J5 k2 hr7 rfl))
   (ak (bI (i:=3) kW.nd rfl (Or.inl rfl) (gd ax))
   (ak (iT bx (iR (fH (eX m1 RR.cl tF (L2.pv 1))))
    (ak (bI (i:=4) kW.nd rfl (Or.inl rfl) (RP (bQ c1 hr rfl (ah (L2.pv 2) (ah (L2.pv 1) ax)))))
    (ak (gz (lA bF dN dO jn (L2.pv 3) (ah (bZ bN (by rfl) T.len bK (ah (L2.pv 4) ax)) ax)))
    (aA (gz (lA bF j4 j5 pM (L2.pv 3) (ah (L2.pv 4) ax)))))))
   (aA (a9 (L2.pv 3)))))),?_⟩
  refine⟨_,rfl,?_⟩
  intro pr dp Hz hdp df
  have e0:a0 H (upd (upd H dp (.own pr)) pr (.ins CR dp [])):=fun b o hb=>by rw[aE (aK hb Hz),aE (aK hb hdp)];exact hb
  refine⟨pr,dp,_,rfl,au,fun H1 r1 b1=>⟨rfl,?_⟩⟩
  have e1:a0 H H1:=fun b o hb=>b1 _ _ (e0 _ _ hb) (aK hb Hz)
  intro l dl hl OQ Ti
  refine⟨l,dl,rfl,au,fun H2 q b2 hq VF hG=>⟨rfl,?_⟩⟩
  obtain⟨LF,qI⟩:=r1
  have e2:a0 H1 H2:=fun b o hb=>b2 _ _ (by rw[aE (aK hb hl),aE (aK hb OQ)];exact hb) (aK hb hl)
  obtain⟨Ln,FY⟩:=i3 hq
  have YM:=(i3 FY).2
  have YL:q≠pr:=fun e=>by rw[e,qI]at YM;cases YM
  have hlp:l≠pr:=fun e=>by rw[e,qI]at hl;cases hl
  have S2:MS K CR CL C H2 pr (.ref ca) ns 0 l q g1:=⟨⟨⟨LF,e2 _ _ qI⟩,⟨ca,rfl,(e1.trans e2).seq hca⟩,⟨K0,by decide,_,hG,.inl rfl⟩,YL⟩,VF,hlp,Ln⟩
  refine⟨bB _,fun T' hT=>?_⟩
  refine⟨fun mm σ H'=>∃(i:Nat)(q:Addr)(g:Grp)(done rest:List Int)(v4:Option V),mm=ns.length-i∧σ=[some (.ref ca),some (.ref pr),some (.ref l),some (.ref T'),v4]∧(∀φ,MS K CR CL C (upd H' T' (.ext φ)) pr (.ref ca) ns i l q g)∧H' T'=some (.lst (done.map V.int))∧Run ns g i rest∧out=done++rest,
   ⟨_,0,q,g1,[],out,none,rfl,rfl,fun φ=>?_,au,aad,rfl⟩,?_⟩
  ·rw[uL]
   exact S2.same (bq hT)
  rintro mm σ H3 ⟨i,q,g,done,rest,v4,rfl,rfl,SS,hT3,run,pY⟩
  have aeR: ∀{b C' Di:Addr}{fs:List (Str×V)},(∀φ,upd H3 T' (.ext φ) b=some (.ins C' Di fs))→b≠T'∧H3 b=some (.ins C' Di fs):=by
   intro b C' Di fs h
   have h':=h (fun _=>True)
   by_cases e:b=T'
   ·subst e
    rw[au]at h'
    cases h'
   ·rw[aE e]at h'
    exact⟨e,h'⟩
  have S3:=SS (fun _=>True)
  have RI:IL K H3 (.ref ca) ns:=by
   obtain⟨a,e,h⟩:=S3.rg.il
   cases e
   rcases h with(h|⟨o,h⟩)|h
   ·by_cases e:ca=T'
    ·subst e;rw[au]at h;cases h
    ·rw[aE e]at h;exact⟨_,rfl,.inl (.inl h)⟩
   ·by_cases e:ca=T'
    ·subst e;rw[au]at h;cases h
    ·rw[aE e]at h;exact⟨_,rfl,.inl (.inr ⟨o,h⟩)⟩
   ·exact⟨_,rfl,.inr h⟩
  obtain⟨dr3,NU⟩:=S3.rg.rd
  have VH:pr≠T':=fun e=>by rw[e,au]at NU;cases NU
  have O0:H3 pr=some (.ins CR dr3 (Sn (.ref ca) ((i:Nat):Int))):=by rw[aE VH]at NU;exact NU
  refine⟨_,rfl,pr,dr3,_,rfl,O0,rfl,pr,.ref ca,ns,((i:Nat):Int),rfl,⟨dr3,O0⟩,RI,_,rfl,?_⟩
  cases run with
  |nil _ _ hle=>
   have e:decide ((ns.length:Int)≤((i:Nat):Int))=true:=decide_eq_true (by omega)
   show if(!decide ((ns.length:Int)≤((i:Nat):Int)))=true then _ else _
   rw[e]
   refine rT ⟨_,rfl,k _ _ ?_⟩
   rw[hT3,pY,dS]
  |cons _ g' _ i' k6 VI eI Ag st run'=>
   have e:decide ((ns.length:Int)≤((i:Nat):Int))=false:=decide_eq_false (by omega)
   show if(!decide ((ns.length:Int)≤((i:Nat):Int)))=true then _ else _
   rw[e]
   refine oi ⟨fun σ' H'=>∃(q:Addr)(v4:Option V),σ'=[some (.ref ca),some (.ref pr),some (.ref l),some (.ref T'),v4]∧(∀φ,MS K CR CL C (upd H' T' (.ext φ)) pr (.ref ca) ns i' l q g')∧H' T'=some (.lst ((done++((k6.length:Int)::k6)).map V.int)),?_,?_⟩
   ·rintro σ' H' ⟨q',v4',rfl,SS',U9⟩
    refine⟨ns.length-i',by omega,i',q',g',done++((k6.length:Int)::k6),VI,v4',rfl,rfl,SS',U9,run',?_⟩
    rw[pY]
    simp
   ·refine⟨T',_,hT3,fun o=>?_⟩
    refine⟨_,rfl,_,rfl,l,pr,q,g,g',.ref ca,ns,k6,i,i',rfl,SS _,st,fun H4 D q' S4 f4 hD yN=>?_⟩
    obtain⟨dl3,OP⟩:=(SS (D6 T' o)).ln
    obtain⟨dq3,fq3,CM⟩:=(SS (D6 T' o)).rg.gr.ins
    have hlT:T'≠l:=fun e=>by rw[←e,au]at OP;cases OP
    have hqT:T'≠q:=fun e=>by rw[←e,au]at CM;cases CM
    have Vt:H4 T'=some (.ext (D6 T' o)):=f4 _ _ au hlT VH.symm hqT
    have hDT:D≠T':=(i3 hD).1
    refine⟨Vt,?_⟩
    have ho2:out.length=done.length+((k6.length+1)+VI.length):=by
     rw[pY]
     simp
     omega
    have Sg:=bD
    refine⟨_,rfl,.inl ⟨rfl,_,cy.of au⟩,_,rfl,D,_,rfl,.inl (cy.of (by rw[aE hDT];exact yN)),T',_,_,rfl,rfl,au,by rw[ae];omega,?_⟩
    rw[uL]
    refine⟨_,rfl,.inl ⟨rfl,_,cy.of au⟩,_,rfl,T',D,_,_,rfl,rfl,au,(by rw[aE hDT];exact yN),?_,q',some (.ref D),rfl,fun φ=>?_,?_⟩
    ·simp only[bC,ae,aC,oq]
     omega
    ·rw[uL,uL]
     exact S4.VE (jM.upd Vt)
    ·rw[au]
     simp
end
end GT
end
section
namespace GT
open Rd01 (Grp factsOf)
open Rd01Neutral (step start callOf asked1)
open PyRd01 (shape whole)
theorem drop_cons{α:Type}{ns:List α}{i:Nat}{p:α}{r:List α}(h:ns.drop i=p::r):ns[i]? =some p∧r=ns.drop (i+1)∧i<ns.length:=by
 have h1:ns[i]? =some p:=by
  have:=List.getElem?_drop (xs:=ns) (i:=i) (j:=0)
  rw[h]at this
  simpa using this.symm
 refine⟨h1,?_,(aJ.mp h1).1⟩
 have:=ba List.tail h
 rw[List.tail_drop]at this
 exact this.symm
theorem xo{s:Rd01.Abs}{c:List (List Int)}{x:Rd01.Call}(h:callOf c=some x):step s c=((Rd01.does s x).1,(Rd01.does s x).2.value::(Rd01.does s x).2.numbers.map fun(b:Nat)=>(b:Int)):=by
 unfold step
 rw[h]
theorem nE{g:Grp}{ns:List Int}{i k:Nat}{p:Int}{val:Int}{c:List (List Int)}{x:Rd01.Call}(hc:callOf c=some x)(hs:(Rd01.does ⟨g⟩ x).1=⟨g⟩)(hn:(Rd01.does ⟨g⟩ x).2.numbers=[])(hv:(Rd01.does ⟨g⟩ x).2.value=val)(hp:ns[i]? =some p)(ab:Ab g ns (i+1) p k val):
  ∃g' k6,step ⟨g⟩ c=(⟨g'⟩,k6)∧Hq g ns i g' k6 (i+1+k)∧k6.length≤65:=by
 refine⟨g,[val],?_,Hq.about p k val hp ab,by simp⟩
 rw[xo hc,hs,hn,hv]
 rfl
theorem Lj{g:Grp}{ns:List Int}{i:Nat}{p:Int}{r:List Int}(h:ns.drop i=p::r){c:List (List Int)}{t:List Int}(hc:PyFlat.call shape (p::r)=some (c,t))(ha:asked1 (whole c)=true):
  ∃g' k6 i',step ⟨g⟩ (whole c)=(⟨g'⟩,k6)∧Hq g ns i g' k6 i'∧t=ns.drop i'∧i<i'∧k6.length≤65:=by
 obtain⟨hp,hr,eI⟩:=drop_cons h
 unfold PyFlat.call at hc
 unfold shape at hc
 by_cases e0:p=0
 ·subst e0
  simp[PyFlat.rows]at hc
  obtain⟨rfl,rfl⟩:=hc
  exact⟨g1,[0],i+1,rfl,Hq.begin hp,hr,by omega,by simp⟩
 by_cases e1:p=1
 ·subst e1
  cases r with
  |nil=>simp[PyFlat.rows,PyFlat.row]at hc
  |cons m r'=>
   obtain⟨hm,iF,Ag⟩:=drop_cons hr.symm
   by_cases Lk:0≤m∧m.toNat≤r'.length
   ·simp[PyFlat.rows,PyFlat.row,Lk]at hc
    obtain⟨rfl,rfl⟩:=hc
    obtain⟨mm,rfl⟩: ∃mm:Nat,m=(mm:Nat):=⟨m.toNat,by omega⟩
    rw[aY]at Lk ha
    have kZ:(r'.take mm).length=mm:=by rw[cT];omega
    have WB:r'.take mm=(ns.drop (i+2)).take mm:=by rw[iF]
    have hw:whole [[1],r'.take mm]=[[1,((r'.take mm).length:Int)],r'.take mm]:=rfl
    rw[hw]at ha
    have AG:(((r'.take mm).all (fun(z:Int)=>Rd01Neutral.natural z 8)&&Rd01Neutral.long (r'.take mm) ((r'.take mm).length:Int) 1 4096)&&(Rd01Neutral.whole32 ((r'.take mm).length:Int)&&(decide (((r'.take mm).length:Int)≤576)||decide (4096<((r'.take mm).length:Int)))))=true:=ha
    rw[kZ,aN,aN,aN,eY]at AG
    obtain⟨⟨q1,q2⟩,q3,q4⟩:=AG
    have VG:mm≤576:=by
     rcases q4 with q4|q4
     ·have:=of_decide_eq_true q4;omega
     ·have q5:=of_decide_eq_true q4
      unfold Rd01Neutral.long at q2
      have q6:=of_decide_eq_true q2
      rw[kZ,aI (by omega)]at q6
      omega
    have Il: ∀x∈(ns.drop (i+2)).take mm,0≤x:=by
     intro x hx
     rw[←WB]at hx
     have:=aW.mp q1 x hx
     unfold Rd01Neutral.natural at this
     rw[aN,aG]at this
     exact this.1
    refine⟨_,_,i+2+mm,?_,Hq.table mm hp hm (by rw[iF,eF]at Lk;omega) Il VG,?_,by omega,by simp⟩
    ·rw[aY,hw,←WB]
     have VJ:callOf [[1,((r'.take mm).length:Int)],r'.take mm]=some (.table ((r'.take mm).map Int.toNat) ((r'.take mm).length:Int)):=rfl
     rw[xo VJ]
     unfold xW
     cases hs:Rd01.sideOf ((r'.take mm).length:Nat)with
     |none=>
      have hd:Rd01.does ⟨g⟩ (.table ((r'.take mm).map Int.toNat) ((r'.take mm).length:Int))=(⟨g⟩,Rd01.refused):=by
       unfold Rd01.does
       simp only[hs]
      rw[hd]
      rfl
     |some k=>
      obtain⟨k1,k2,k3⟩:=pQ hs
      have ZW:((r'.take mm).map Int.toNat).length=k*k:=by rw[ae,k3]
      by_cases hg:Rd01.isGroup ⟨k,(r'.take mm).map Int.toNat⟩=true
      ·have hd:Rd01.does ⟨g⟩ (.table ((r'.take mm).map Int.toNat) ((r'.take mm).length:Int))=({g:=⟨k,(r'.take mm).map Int.toNat⟩},{value:=(k:Nat)}):=by
        unfold Rd01.does
        simp only[hs]
        rw[aO ⟨ZW,hg⟩]
       rw[hd]
       simp only[aO hg]
       rfl
      ·have hd:Rd01.does ⟨g⟩ (.table ((r'.take mm).map Int.toNat) ((r'.take mm).length:Int))=(⟨g⟩,Rd01.refused):=by
        unfold Rd01.does
        simp only[hs]
        rw[aI (fun h'=>hg h'.2)]
       rw[hd]
       simp only[aI hg]
       rfl
    ·rw[aY,iF,List.drop_drop]
   ·simp[PyFlat.rows,PyFlat.row]at hc
    rw[aI (by omega)]at hc
    simp at hc
 by_cases e2:p=2
 ·subst e2
  simp[PyFlat.rows]at hc
  obtain⟨rfl,rfl⟩:=hc
  obtain⟨g',k6,h1,h2,h3⟩:=nE (g:=g) (ns:=ns) (i:=i) (k:=0) (c:=[[2]]) (x:=.order) rfl rfl rfl rfl hp Ab.order
  exact⟨g',k6,i+1,h1,h2,hr,by omega,h3⟩
 by_cases e3:p=3
 ·subst e3
  simp[PyFlat.rows]at hc
  obtain⟨rfl,rfl⟩:=hc
  obtain⟨g',k6,h1,h2,h3⟩:=nE (g:=g) (ns:=ns) (i:=i) (k:=0) (c:=[[3]]) (x:=.prime) rfl rfl rfl rfl hp Ab.prime
  exact⟨g',k6,i+1,h1,h2,hr,by omega,h3⟩
 by_cases e4:p=4
 ·subst e4
  simp[PyFlat.rows]at hc
  obtain⟨rfl,rfl⟩:=hc
  obtain⟨g',k6,h1,h2,h3⟩:=nE (g:=g) (ns:=ns) (i:=i) (k:=0) (c:=[[4]]) (x:=.classes) rfl rfl rfl rfl hp Ab.classes
  exact⟨g',k6,i+1,h1,h2,hr,by omega,h3⟩
 by_cases qB:p=12
 ·subst qB
  simp[PyFlat.rows]at hc
  obtain⟨rfl,rfl⟩:=hc
  obtain⟨g',k6,h1,h2,h3⟩:=nE (g:=g) (ns:=ns) (i:=i) (k:=0) (c:=[[12]]) (x:=.solvable) rfl rfl rfl rfl hp Ab.solvable
  exact⟨g',k6,i+1,h1,h2,hr,by omega,h3⟩
 have one: ∀{val:Int→Int}{x:Int→Rd01.Call},PyFlat.call shape (p::r)=some (c,t)→shape p=some (1,0)→(∀a,callOf (whole [[p,a]])=some (x a))→(∀a,(Rd01.does ⟨g⟩ (x a)).1=⟨g⟩)→(∀a,(Rd01.does ⟨g⟩ (x a)).2.numbers=[])→(∀a,(Rd01.does ⟨g⟩ (x a)).2.value=val a)→(∀a,ns[i+1]? =some a→Ab g ns (i+1) p 1 (val a))→
   ∃g' k6 i',step ⟨g⟩ (whole c)=(⟨g'⟩,k6)∧Hq g ns i g' k6 i'∧t=ns.drop i'∧i<i'∧k6.length≤65:=by
  intro val x IW hsh VJ hs hn hv uG
  simp only[PyFlat.call,hsh]at IW
  cases r with
  |nil=>simp at IW
  |cons a r'=>
   simp[PyFlat.rows]at IW
   obtain⟨rfl,rfl⟩:=IW
   obtain⟨RQ,iF,_⟩:=drop_cons hr.symm
   obtain⟨g',k6,h1,h2,h3⟩:=nE (g:=g) (ns:=ns) (i:=i) (k:=1) (c:=whole [[p,a]]) (x:=x a) (VJ a) (hs a) (hn a) (hv a) hp (uG a RQ)
   exact⟨g',k6,i+1+1,h1,h2,iF,by omega,h3⟩
 by_cases e5:p=5
 ·subst e5
  refine one (val:=fun a=>if Rd01.below a g.n=true then((factsOf g).classOf a.toNat:Int)else-1) (x:=fun a=>.class_ a) hc rfl (fun a=>rfl) (fun a=>?_) (fun a=>?_) (fun a=>?_) (fun a ha=>Ab.class_ a ha)
  all_goals
   show _
   unfold Rd01.does
   by_cases hb:Rd01.below a (factsOf g).n=true
   ·simp only[hb,fD]
    all_goals first|rfl|(rw[aO (show Rd01.below a g.n=true from hb)])
   ·simp only[hb,fb]
    all_goals first|rfl|(rw[aI (show¬Rd01.below a g.n=true from hb)];rfl)
 by_cases e6:p=6
 ·subst e6
  refine one (val:=fun a=>if Rd01.below a (factsOf g).many=true then((factsOf g).sizeOf_ a.toNat:Int)else-1) (x:=fun a=>.size a) hc rfl (fun a=>rfl) (fun a=>?_) (fun a=>?_) (fun a=>?_) (fun a ha=>Ab.size a ha)
  all_goals
   unfold Rd01.does
   by_cases hb:Rd01.below a (factsOf g).many=true
   ·simp only[hb,fD]
   ·simp only[hb,fb]
    all_goals first|rfl|skip
 by_cases e8:p=8
 ·subst e8
  refine one (val:=fun a=>if Rd01.below a (factsOf g).many=true then((factsOf g).kind (factsOf g).prime (((factsOf g).chars (factsOf g).prime).getD a.toNat []):Int)else-1) (x:=fun a=>.kind a) hc rfl (fun a=>rfl) (fun a=>?_) (fun a=>?_) (fun a=>?_) (fun a ha=>Ab.kind a ha)
  all_goals
   unfold Rd01.does
   by_cases hb:Rd01.below a (factsOf g).many=true
   ·simp only[hb,fD]
   ·simp only[hb,fb]
    all_goals first|rfl|skip
 by_cases e10:p=10
 ·subst e10
  refine one (val:=fun a=>if Rd01.below a g.n=true then((factsOf g).pairs a.toNat:Int)else-1) (x:=fun a=>.pairs a) hc rfl (fun a=>rfl) (fun a=>?_) (fun a=>?_) (fun a=>?_) (fun a ha=>Ab.pairs a ha)
  all_goals
   unfold Rd01.does
   by_cases hb:Rd01.below a (factsOf g).n=true
   ·simp only[hb,fD]
    all_goals first|rfl|(rw[aO (show Rd01.below a g.n=true from hb)])
   ·simp only[hb,fb]
    all_goals first|rfl|(rw[aI (show¬Rd01.below a g.n=true from hb)];rfl)
 by_cases e7:p=7
 ·subst e7
  cases r with
  |nil=>simp at hc
  |cons a r'=>
   cases r' with
   |nil=>simp at hc
   |cons b r''=>
    simp[PyFlat.rows]at hc
    obtain⟨rfl,rfl⟩:=hc
    obtain⟨RQ,iF,_⟩:=drop_cons hr.symm
    obtain⟨DH,tu,_⟩:=drop_cons iF.symm
    refine⟨g,AD g a b,i+3,?_,Hq.char a b hp RQ DH,tu,by omega,?_⟩
    ·have VJ:callOf (whole [[7,a,b]])=some (.character a b):=rfl
     rw[xo VJ]
     unfold AD Rd01.does
     by_cases hb:Rd01.below a (factsOf g).many=true
     ·simp only[hb,fD]
      rfl
     ·simp only[hb,fb]
      rfl
    ·unfold AD
     by_cases hb:Rd01.below a (factsOf g).many=true
     ·rw[aO hb,aC,bj,ae,cT]
      have:Rd01.room_ b 64≤64:=by
       unfold Rd01.room_
       split
       ·omega
       ·omega
      omega
     ·rw[aI hb]
      simp
 by_cases Kj:p=11
 ·subst Kj
  cases r with
  |nil=>simp at hc
  |cons a r'=>
   cases r' with
   |nil=>simp at hc
   |cons b r''=>
    simp[PyFlat.rows]at hc
    obtain⟨rfl,rfl⟩:=hc
    obtain⟨RQ,iF,_⟩:=drop_cons hr.symm
    obtain⟨DH,tu,_⟩:=drop_cons iF.symm
    have hd: ∀(q:Bool),(Rd01.below a (factsOf g).n&&Rd01.below b 1001)=q→(Rd01.does ⟨g⟩ (.roots a b)).1=⟨g⟩∧(Rd01.does ⟨g⟩ (.roots a b)).2.numbers=[]∧(Rd01.does ⟨g⟩ (.roots a b)).2.value=gy g a b:=by
     intro q hq
     have hv:gy g a b=if(Rd01.below a (factsOf g).n&&Rd01.below b 1001)=true then((factsOf g).roots a.toNat b.toNat:Int)else-1:=rfl
     rw[hv]
     unfold Rd01.does
     cases q with
     |true=>simp only[hq,fD];exact⟨trivial,trivial,trivial⟩
     |false=>simp only[hq,dW,fb];exact⟨trivial,rfl,rfl⟩
    obtain⟨d1,d2,d3⟩:=hd _ rfl
    obtain⟨g',k6,h1,h2,h3⟩:=nE (g:=g) (ns:=ns) (i:=i) (k:=2) (c:=whole [[11,a,b]]) (x:=.roots a b) rfl d1 d2 d3 hp (Ab.roots a b RQ DH)
    exact⟨g',k6,i+1+2,h1,h2,tu,by omega,h3⟩
 by_cases e9:p=9
 ·subst e9
  cases r with
  |nil=>simp at hc
  |cons a r'=>
   cases r' with
   |nil=>simp at hc
   |cons b r''=>
    cases r'' with
    |nil=>simp at hc
    |cons d r3=>
     simp[PyFlat.rows]at hc
     obtain⟨rfl,rfl⟩:=hc
     obtain⟨RQ,iF,_⟩:=drop_cons hr.symm
     obtain⟨DH,tu,_⟩:=drop_cons iF.symm
     obtain⟨vf,Zk,_⟩:=drop_cons tu.symm
     have hd: ∀(q:Bool),(Rd01.below a (factsOf g).many&&(Rd01.below b (factsOf g).many&&Rd01.below d (factsOf g).n))=q→(Rd01.does ⟨g⟩ (.ways a b d)).1=⟨g⟩∧(Rd01.does ⟨g⟩ (.ways a b d)).2.numbers=[]∧(Rd01.does ⟨g⟩ (.ways a b d)).2.value=Hm g a b d:=by
      intro q hq
      have hv:Hm g a b d=if(Rd01.below a (factsOf g).many&&(Rd01.below b (factsOf g).many&&Rd01.below d (factsOf g).n))=true then((factsOf g).ways a.toNat b.toNat d.toNat:Int)else-1:=rfl
      rw[hv]
      unfold Rd01.does
      cases q with
      |true=>simp only[hq,fD];exact⟨trivial,trivial,trivial⟩
      |false=>simp only[hq,dW,fb];exact⟨trivial,rfl,rfl⟩
     obtain⟨d1,d2,d3⟩:=hd _ rfl
     obtain⟨g',k6,h1,h2,h3⟩:=nE (g:=g) (ns:=ns) (i:=i) (k:=3) (c:=whole [[9,a,b,d]]) (x:=.ways a b d) rfl d1 d2 d3 hp (Ab.ways a b d RQ DH vf)
     exact⟨g',k6,i+1+3,h1,h2,Zk,by omega,h3⟩
 simp[e0,e1,e2,e3,e4,e5,e6,e7,e8,e9,e10,Kj,qB]at hc
theorem runs{ns:List Int}: ∀(f i:Nat)(g:Grp)(cs:List (List (List Int))),PyFlat.calls shape f (ns.drop i)=some cs→(∀c∈cs,asked1 (whole c)=true)→
  Run ns g i (PyFlat.told (PyFlat.played step ⟨g⟩ (cs.map whole)))∧(PyFlat.told (PyFlat.played step ⟨g⟩ (cs.map whole))).length≤66*cs.length:=by
 intro f
 induction f with
 |zero=>
  intro i g cs hc ha
  cases hd:ns.drop i with
  |nil=>
   rw[hd]at hc
   simp[PyFlat.calls]at hc
   subst hc
   exact⟨Run.nil g i (List.drop_eq_nil_iff.1 hd),bB _⟩
  |cons p r=>
   rw[hd]at hc
   simp[PyFlat.calls]at hc
 |succ f ih=>
  intro i g cs hc ha
  cases hd:ns.drop i with
  |nil=>
   rw[hd]at hc
   simp[PyFlat.calls]at hc
   subst hc
   exact⟨Run.nil g i (List.drop_eq_nil_iff.1 hd),bB _⟩
  |cons p r=>
   rw[hd,PyFlat.calls]at hc
   cases h1:PyFlat.call shape (p::r)with
   |none=>rw[h1]at hc;simp at hc
   |some ct=>
    obtain⟨c,t⟩:=ct
    rw[h1]at hc
    simp only at hc
    cases h2:PyFlat.calls shape f t with
    |none=>rw[h2]at hc;simp at hc
    |some cs'=>
     rw[h2]at hc
     simp only[Option.some.injEq]at hc
     subst hc
     obtain⟨g',k6,i',hs,st,ht,eI,Dz⟩:=Lj (g:=g) hd h1 (ha c (by simp))
     rw[ht]at h2
     obtain⟨r1,r2⟩:=ih i' g' cs' h2 (fun c' qL=>ha c' (by simp[qL]))
     have e1:PyFlat.told (PyFlat.played step ⟨g⟩ ((c::cs').map whole))=(k6.length:Int)::k6++PyFlat.told (PyFlat.played step ⟨g'⟩ (cs'.map whole)):=by
      rw[a6,PyFlat.played,hs]
      rfl
     rw[e1]
     refine⟨Run.cons g g' i i' k6 _ (drop_cons hd).2.2 eI st r1,?_⟩
     rw[bC,aC,aC]
     omega
theorem Hr{ns:List Int}(h:PyRd01.answers_asked ns=true):Run ns g1 0 (PyRd01.answers ns)∧(PyRd01.answers ns).length≤100000:=by
 unfold PyRd01.answers_asked at h
 unfold PyRd01.answers
 cases hc:PyRd01.calls ns with
 |none=>rw[hc]at h;cases h
 |some cs=>
  rw[hc]at h
  unfold PyRd01.calls at hc
  cases hp:PyFlat.calls shape ns.length ns with
  |none=>rw[hp]at hc;cases hc
  |some Sy=>
   rw[hp]at hc
   have UL:cs=Sy.map whole:=(a7 hc).symm
   subst UL
   have h':(PyFlat.atMost 100 (Sy.map whole)&&Rd01Neutral.asked (Sy.map whole))=true:=h
   rw[aN]at h'
   have hlen:=of_decide_eq_true h'.1
   rw[ae]at hlen
   have fq: ∀c∈Sy,asked1 (whole c)=true:=by
    have h2:=h'.2
    unfold Rd01Neutral.asked at h2
    rw[aN,aN]at h2
    intro c qL
    exact aW.mp h2.1.1 _ (List.mem_map_of_mem qL)
   obtain⟨r1,r2⟩:=runs ns.length 0 g1 Sy (by rw[List.drop_zero];exact hp) fq
   exact⟨r1,by
    have:(PyFlat.told (PyFlat.played step ⟨g1⟩ (Sy.map whole))).length≤100000:=by omega
    exact this⟩
end GT
end
namespace GT
open PySem PySem.Spec PyProof.Rows L2
abbrev FX(K:W.Frag)(x q:Str)(st:Stmt)(f:Addr):Prop:=∃(oc:Value)(od:Option Addr)(sl:Array (Option Value))(kV dc pm:Value)(an:Option Addr)(cd ct:Value),K.lookup f=some ⟨oc,od,.func (W.fnOf x q (kl st) (jz st) (aB st) .none kV dc pm an cd ct),sl⟩∧W.codeIn K cd q=true∧W.keepIn K (.ref f)=true
abbrev GF(K:W.Frag)(x:Str)(st:Stmt):Prop:=∃f,W.nsIn K mainGlobals x=some (some (.ref f))∧FX K x x st f
abbrev MF(K:W.Frag)(C:Addr)(x q:Str)(st:Stmt):Prop:=∃f,W.findIn K (.ref C) x=some (some (.ref f))∧W.isFn K (.ref f)=true∧FX K x q st f
abbrev KF(K:W.Frag)(C:Addr)(x:Str):Prop:=W.nsIn K mainGlobals x=some (some (.ref C))∧W.makesIn K C=true∧W.keepIn K (.ref C)=true
section
variable(P:Program)(w:World)(base:Heap){K:W.Frag}{h:Heap}{mg:Str→Option Value}{x q:Str}{st:Stmt}{k:Nat}{ps:List Str}{sp:L2.Sp}{C:Addr}
theorem eJ(X:K.In h)(G:h.Ns mainGlobals mg)(z:GF K x st)(ok: ∀{f fd},f6 K x x st f fd→cF P w K mg base fT k f fd ps sp)
  (hb: ∀(kV doc pm:Value)(an:Option Addr)(eM ct:Value)(us:List Value),us.length=ps.length→bindArgs (W.fnOf x x (kl st) (jz st) (aB st) .none kV doc pm an eM ct) ⟨us,[]⟩=pure (ps.zip us):=by intro _ _ _ _ _ _ us hl;rcases us with _|⟨_,_|⟨_,_|⟨_,_|⟨_,_|_⟩⟩⟩⟩<;>first|rfl|simp at hl):iJ P w K mg base k x ps sp:=by
 obtain⟨f,a,oc,od,sl,kV,dc,pm,an,cd,ct,l,c,e⟩:=z
 have F:=Ac (st:=st) l c e
 exact⟨f,_,W.mg_of X G a,e,F.binds hb,ok F⟩
theorem uC(mg:Str→Option Value)(z:MF K C x q st)(ok: ∀{f fd},f6 K x q st f fd→cF P w K mg base fT k f fd ps sp)
  (hb: ∀(kV doc pm:Value)(an:Option Addr)(eM ct:Value)(us:List Value),us.length=ps.length→bindArgs (W.fnOf x q (kl st) (jz st) (aB st) .none kV doc pm an eM ct) ⟨us,[]⟩=pure (ps.zip us):=by intro _ _ _ _ _ _ us hl;rcases us with _|⟨_,_|⟨_,_|⟨_,_|⟨_,_|_⟩⟩⟩⟩<;>first|rfl|simp at hl):jX P w K mg base k C x ps sp:=by
 obtain⟨f,a,i,oc,od,sl,kV,dc,pm,an,cd,ct,l,c,e⟩:=z
 have F:=Ac (st:=st) l c e
 exact⟨f,_,⟨a,i,e⟩,F.binds hb,ok F⟩
theorem NV(X:K.In h)(G:h.Ns mainGlobals mg)(y:KF K C x)(z:MF K C "__init__" q st)(ok: ∀{f fd},f6 K "__init__" q st f fd→cF P w K mg base fT k f fd ps sp)
  (hb: ∀(kV doc pm:Value)(an:Option Addr)(eM ct:Value)(us:List Value),us.length=ps.length→bindArgs (W.fnOf "__init__" q (kl st) (jz st) (aB st) .none kV doc pm an eM ct) ⟨us,[]⟩=pure (ps.zip us):=by intro _ _ _ _ _ _ us hl;rcases us with _|⟨_,_|⟨_,_|⟨_,_|⟨_,_|_⟩⟩⟩⟩<;>first|rfl|simp at hl):BR P w K mg base k x C ps sp:=by
 obtain⟨f,a,i,oc,od,sl,kV,dc,pm,an,cd,ct,l,c,e⟩:=z
 have F:=Ac (st:=st) l c e
 exact⟨f,_,W.mg_of X G y.1,⟨y.2.1,a,i,y.2.2⟩,F.binds hb,ok F⟩
end
theorem all_mk{P:Program}{w:World}{K:W.Frag}{h:Heap}{mg:Str→Option Value}{fa CC CR CG CL:Addr}{t1 t2 t3 t4:Tok}(X:K.In h)(G:h.Ns mainGlobals mg)(hfa:mg "answers"=some (.ref fa))(T:Txt mg)(T2:Txt2 mg)(TK:RO mg)
  (hMT:mg "MOST_THINGS"=some (.int 64 t1))(O1:mg "REFUSED"=some (.int (-1) t2))(hTL:mg "MOST_TOLD"=some (.int 64 t3))(hMP:mg "MOST_POWER"=some (.int 1000 t4))
  (qCC:KF K CC "Chain")(Sz:DG K CC)
  (qCR:KF K CR "Reader")(LH:wJ K CR)
  (qCG:KF K CG "Group")(uD:jK K CG)
  (qCL:KF K CL "Line")(WE:K1 K CL)
  (z1:GF K "inverse_number" jo)(z2:GF K "multiple" mY)(z3:GF K "with_multiple" g9)(z4:GF K "sum_of_products" fX)(z5:GF K "image_of" mZ)(z6:GF K "value_at" qw)(z7:GF K "zeros_of" m5)(z8:GF K "without_zero" kH)(z9:GF K "part_at" pO)(z10:MF K CC "__init__" "Chain.__init__" nh)(z11:MF K CC "rest_of" "Chain.rest_of" hX)(z12:MF K CC "is_new" "Chain.is_new" kK)(z13:MF K CC "keep" "Chain.keep" km)(z14:MF K CC "relation" "Chain.relation" jr)(z15:GF K "split_row" lD)(z16:GF K "split_each" m6)(z17:GF K "degree_of" oY)(z18:GF K "ways_for_each" g8)(z19:GF K "class_matrix" iU)(z20:GF K "all_parts" lE)(z21:MF K CG "opposite" "Group.opposite" js)(z22:GF K "character_of_part" fm)(z23:GF K "characters_of" hJ)(z24:GF K "kind_of" mr)(z25:MF K CG "commutator" "Group.commutator" ip)(z26:GF K "commutators" jA)(z27:GF K "count_pairs" lR)(z28:GF K "count_roots" gX)(z29:GF K "all_made" m7)(z30:GF K "comes_apart" lT)(z31:GF K "square_root" lS)(z32:GF K "is_closed" oZ)(z33:GF K "has_neutral_zero" fI)(z34:GF K "has_inverses" iV)(z35:GF K "is_associative" gC)(z36:GF K "group_products" gB)(z37:GF K "is_prime" qx)(z38:GF K "least_prime" lU)(z39:GF K "exponent" m8)(z40:GF K "number_classes" gE)(z41:GF K "members_of_each" fY)(z42:MF K CG "__init__" "Group.__init__" iX)(z43:GF K "lone_group" m9)(z44:GF K "begin" Ae)(z45:GF K "take_table" ng)(z46:MF K CG "has_thing" "Group.has_thing" iY)(z47:GF K "class_of" qy)(z48:MF K CG "has_class" "Group.has_class" iZ)(z49:GF K "size_of" tp)(z50:GF K "pairs" Af)(z51:GF K "solvable" qz)(z52:MF K CG "has_character" "Group.has_character" fU)(z53:GF K "kind" Dv)(z54:MF K CR "read_number" "Reader.read_number" gg)(z55:GF K "answer_character" ik)(z56:GF K "answer_ways" lW)(z57:GF K "answer_roots" kJ)(z58:GF K "answer_about" kI)(z59:MF K CR "read_row" "Reader.read_row" iW)(z60:GF K "answer_call" lV)(z61:MF K CR "__init__" "Reader.__init__" lX)(z62:MF K CR "at_end" "Reader.at_end" jW)(z63:MF K CL "__init__" "Line.__init__" o4)(zZ:GF K "answers" jq):
  ∃fd:FuncData,(∀(s:Shared)(us:List Value),us.length=(["calls"]:List Str).length→BindsTo s fd ⟨us,[]⟩ ((["calls"]:List Str).zip us))∧∀base:Heap,K.In base→base.Ns mainGlobals mg→cF P w K mg base fT 10 fa fd ["calls"] (tN K):=by
 obtain⟨f,a,oc,od,sl,kV,dc,pm,an,cd,ct,l,c,e⟩:=zZ
 have e':=hfa.symm.trans (W.mg_of X G a)
 cases e'
 have F:=Ac (st:=jq) l c e
 refine⟨W.fnOf "answers" "answers" (kl jq) (jz jq) (aB jq) .none kV dc pm an cd ct,fun s us hu=>match us,hu with|[_],_=>.of_eq rfl,fun base _ _=>?_⟩
 have c1:=eJ P w base X G z1 fun F=>MV F
 have c2:=eJ P w base X G z2 fun F=>QX F
 have c3:=eJ P w base X G z3 fun F=>UI F T
 have c4:=eJ P w base X G z4 fun F=>QZ F T T2
 have c5:=eJ P w base X G z5 fun F=>Q0 F c4
 have c6:=eJ P w base X G z6 fun F=>Q1 F T2
 have c7:=eJ P w base X G z7 fun F=>J3 F T c6
 have c8:=eJ P w base X G z8 fun F=>UK F T2
 have c9:=eJ P w base X G z9 fun F=>Na F T c8 c3 c2 c1 c6
 have Z7:=NV P w base X G qCC z10 fun F=>J7 F Sz
 have Z8:=uC P w base mg z11 fun F=>MX F Sz T c3
 have Z9:=uC P w base mg z12 fun F=>Q3 F Sz T
 have c13:=uC P w base mg z13 fun F=>M0 F Sz T c2 c1
 have c14:=uC P w base mg z14 fun F=>Q5 F Sz T
 have c15:=eJ P w base X G z15 fun F=>Kb F T Sz Z7 Z8 Z9 c13 c14 c5 c9 c7
 have c16:=eJ P w base X G z16 fun F=>RB F c15
 have c17:=eJ P w base X G z17 fun F=>Ry F
 have c18:=eJ P w base X G z18 fun F=>Ni F uD
 have c19:=eJ P w base X G z19 fun F=>Rz F uD c18
 have c20:=eJ P w base X G z20 fun F=>NA F T uD c16 c19
 have c21:=uC P w base mg z21 fun F=>Rn F uD
 have c22:=eJ P w base X G z22 fun F=>RA F T uD c2 c17 c1 c21
 have c23:=eJ P w base X G z23 fun F=>KO F T2 uD c20 c22
 have c24:=eJ P w base X G z24 fun F=>Hi F T T2 uD
 have c25:=uC P w base mg z25 fun F=>Nh F uD
 have c26:=eJ P w base X G z26 fun F=>Nj F uD c25
 have c27:=eJ P w base X G z27 fun F=>Ha F T uD c26
 have c28:=eJ P w base X G z28 fun F=>Hb F T uD
 have c29:=eJ P w base X G z29 fun F=>NG F T
 have c30:=eJ P w base X G z30 fun F=>KS F T T2 uD c26 c29
 have c31:=eJ P w base X G z31 fun F=>MP F T hMT
 have c32:=eJ P w base X G z32 fun F=>GG F T
 have c33:=eJ P w base X G z33 fun F=>DB F T
 have c34:=eJ P w base X G z34 fun F=>QQ F T
 have c35:=eJ P w base X G z35 fun F=>JJ F T
 have c36:=eJ P w base X G z36 fun F=>UD F T c31 c32 c33 c34 c35
 have c37:=eJ P w base X G z37 fun F=>JU F
 have c38:=eJ P w base X G z38 fun F=>JV F c37
 have c39:=eJ P w base X G z39 fun F=>QW F T
 have c40:=eJ P w base X G z40 fun F=>Nb F T
 have c41:=eJ P w base X G z41 fun F=>Rc F T
 have c42:=NV P w base X G qCG z42 fun F=>Ki F T uD c38 c39 c40 c41
 have c43:=eJ P w base X G z43 fun F=>NL F c42
 have c44:=eJ P w base X G z44 fun F=>K6 F WE c43
 have c45:=eJ P w base X G z45 fun F=>NM F WE uD O1 c36 c42
 have WG:=uC P w base mg z46 fun F=>Km F uD
 have c47:=eJ P w base X G z47 fun F=>Lb F uD O1 WG
 have c48:=uC P w base mg z48 fun F=>Ri F T uD
 have c49:=eJ P w base X G z49 fun F=>Le F uD O1 c48
 have c50:=eJ P w base X G z50 fun F=>Vp F uD O1 WG c27
 have c51:=eJ P w base X G z51 fun F=>NO F c30
 have c52:=uC P w base mg z52 fun F=>Rl F uD c48
 have c53:=eJ P w base X G z53 fun F=>NQ F uD O1 c52 c24 c23
 have VL:=uC P w base mg z54 fun F=>QS F LH
 have c55:=eJ P w base X G z55 fun F=>RM F T uD LH O1 hTL VL c52 c23
 have c56:=eJ P w base X G z56 fun F=>Vw F uD LH O1 VL c48 WG c18
 have c57:=eJ P w base X G z57 fun F=>Vy F uD LH O1 hMP VL WG c28
 have c58:=eJ P w base X G z58 fun F=>VB F T uD LH TK VL c47 c49 c53 c56 c50 c57 c51
 have c59:=uC P w base mg z59 fun F=>QT F LH
 have c60:=eJ P w base X G z60 fun F=>Li F TK LH WE VL c59 c55 c44 c45 c58
 have c61:=NV P w base X G qCR z61 fun F=>JO F LH
 have c62:=uC P w base mg z62 fun F=>JQ F T LH
 have c63:=NV P w base X G qCL z63 fun F=>K4 F WE c43
 exact D7 F T LH c61 c63 c62 c60
end GT
namespace PySem.W.Fast
def tw5651651057833944082:=aq
def tw11605565200076625048:=aq
def tw6828119856425916952:=aq
def tw11121414136082918941:=aq
def tw82789034580673913:=aq
def tw15705271483400680746:=aq
def tw18374469195726029255:=aq
def tw9613903543007965194:=aq
def tw18226397951246180602:=aq
def tw1606342784979054779:=aq
def tw17735189968741544468:=aq
def tw3678068986540228991:=aq
def tw11063627540178633193:=aq
def tw9807339700103175266:=aq
def tw17952609016528031425:=aq
def tw14171483781219850709:=aq
def tw13067336788224468668:=aq
def tw10121683960329492820:=aq
def tw1521342832873855839:=aq
def tw5297398752012660749:=aq
def tw16152639413446267409:=aq
def tw16451416321851153170:=aq
def tw10084061958476370832:=aq
def tw11159255789108056509:=aq
def tw1893196936264688442:=aq
def tw11093484560961404781:=aq
def tw15108167114119079764:=aq
def tw11707102501775847078:=aq
def tw14424171605367516424:=aq
def tw9743336282245034763:=aq
def tw16972294816305776180:=aq
def tw7420473636825739116:=aq
def tw14986273005638709337:=aq
def tw7659782041264298099:=aq
def tw12778573038206387348:=aq
def tw6698718046436703599:=aq
def tw8231812391816048930:=aq
def tw5590034229919074335:=aq
def tw10283628050362321496:=aq
def tw4898850253050884807:=aq
def tw355849577824754617:=aq
def tw3416589069407414709:=aq
def tw16341071712283486457:=aq
def tw12361470534983432676:=aq
def tw4939566251080514495:=aq
def tw13226390649025955331:=aq
def tw2209567858035252258:=aq
def tw6034146487979241605:=aq
def tw4629781067985143688:=aq
def tw13850387663368898683:=aq
def tw5549295774638290352:=aq
def tw7909999275448198759:=aq
def tw5882568895064996404:=aq
def tw3355129813452673811:=aq
def tw1232307495117727801:=aq
def tw2336075765998528936:=aq
def tw3746498129088295081:=aq
def tw6502164175811643088:=aq
def tw5524092343536311239:=aq
def tw16275584717443503553:=aq
def tw3776518433442974548:=aq
def tw17458941946109806468:=aq
def tw15200439762312137671:=aq
def tw7839626357084396769:=aq
def tw610782013934905824:=aq
def tw13893418193005354579:=aq
def tw15702116595919383227:=aq
def tw1184752434125346141:=aq
def tw4314248263731219748:=aq
def tw17845524760450448368:=aq
def tw10661033007203907913:=aq
def tw13925868876714228929:=aq
def tw16826069710782814428:=aq
def tw5174972121377041565:=aq
def tw13372952449707847185:=aq
def tw11618560724075209946:=aq
def tw1935590999676293741:=aq
def tw16007674068022030744:=aq
def tw5560524888858972189:=aq
def tw17759644652561334300:=aq
def tw5482071354064487820:=aq
def tw10903018175672619397:=aq
def tw8827135071568642982:=aq
def tw15867889205654711862:=aq
def tw6119623052881125394:=aq
def tw1875139337137331132:=aq
def tw1625971484220670423:=aq
def tw4064658168626465910:=aq
def tw13021633698535426441:=aq
def tw9223838900903157824:=aq
def tw16046899648112513153:=aq
def tw6828589225886508245:=aq
def tw5611444707573472177:=aq
def tw3518692842011337243:=aq
def tw16477326913627827700:=aq
def tw6120288080174815834:=aq
def tw2027926335495109580:=aq
def tw2662132439559225521:=aq
def tw16230081168334873920:=aq
def tw7903940648921564105:=aq
def tw1408096384969984608:=aq
def tw13095807089663060064:=aq
def tw17796456776609837597:=aq
def tw1426435083675760667:=aq
def tw3326541097657046207:=aq
def tw9903175339339379568:=aq
def tw11698206324176047988:=aq
def tw12329752896309164104:=aq
def tw2309653368690296071:=aq
def tw11558186752808434812:=aq
def tw12100924017886916617:=aq
def tw8733723132862328530:=aq
def tw13448547035715798412:=aq
def tw4186077829590247836:=aq
def tw11289413467760954062:=aq
def tw8373037682744569629:=aq
def tw8758489502638774724:=aq
def tw16468735175063745419:=aq
def tw16767519034355220009:=aq
def tw7816796786701679136:=aq
def tw14342267391432687267:=aq
def tw14101117332739512461:=aq
def tw13205170096614591850:=aq
def tw18399867846745018446:=aq
def tw8154206389214679205:=aq
def tw871327601886321245:=aq
def tw11886097438175026162:=aq
def tw3101546090940600561:=aq
def tw13738492299452324208:=aq
def tw5315988392280016850:=aq
def tw2816675917393468259:=aq
def tw8305771543363657044:=aq
def tw11907386849993552002:=aq
def tw3088490252079603493:=aq
def tw16680009805425317402:=aq
def tw1514570444477555531:=aq
def tw4778606824204015941:=aq
def tw14074470609071219330:=aq
def tw187331603909664430:=aq
def tw17120524050229352974:=aq
def tw3345087968314462735:=aq
def tw6702596138580926135:=aq
def tw12598931321767635030:=aq
def tw14540314604913551483:=aq
def tw8014354273452991834:=aq
def tw14341086817285540766:=aq
def tw2207113583884293321:=aq
def tw14260350164529972852:=aq
def tw6547412143170026207:=aq
def tw17110498529802962400:=aq
def tw17314102134878513113:=aq
def tw7175908251829845462:=aq
def tw7050342429163360895:=aq
def tw11383398793689821258:=aq
def tw13350098972855148015:=aq
def tw7682245371803618829:=aq
def tw3640987976543970237:=aq
def tw10296234651736739724:=aq
def tw12345387041224723156:=aq
def tw4541376579824784521:=aq
def tw8130232774677180512:=aq
def tw8064885280918663008:=aq
def tw8628097026497967048:=aq
def tw12834664061093471414:=aq
def tw4145317105717538704:=aq
def tw12274383721559198041:=aq
def tw10881096385215556231:=aq
def tw17883855009810508137:=aq
def tw14008513344694809087:=aq
def tw5474645926620794690:=aq
def tw6453728117947449917:=aq
def tw14343992204222756363:=aq
def tw9202713758780046448:=aq
def tw9711845477716093585:=aq
def tw6678808329863493492:=aq
def tw4162342708547347546:=aq
def tw13354261417928647617:=aq
def tw5208714489871277770:=aq
def tw16647363047338896041:=aq
def tw8683281074342888039:=aq
def tw17148641336202876951:=aq
def tw7584568626900273108:=aq
def tw9684157073696527150:=aq
def tw15437942661753890763:=aq
def tw7476542967856814399:=aq
def tw17274562753935296382:=aq
def tw7664571665771036911:=aq
def tw11664717012055639521:=aq
def tw14469704091324392791:=aq
def tw1137631441965166038:=aq
def tw31907053538470502:=aq
def tw8603917450194286115:=aq
def tw5614074619058000123:=aq
def tw5009133280701154970:=aq
def tw4819874744990910076:=aq
def tw10136582340459190233:=aq
def tw10015681011046373484:=aq
def tw2669137916694435435:=aq
def tw1811303093391511386:=aq
def tw1050691919760994423:=aq
def tw2700231777388003037:=aq
def tw14056523486783588746:=aq
def tw3501319383020781048:=aq
def tw112134270680194102:=aq
def tw4196194660596430039:=aq
def tw8408287028062986474:=aq
def tw7541625869698021368:=aq
def tw4721466299852864986:=aq
def tw14765351648480228166:=aq
def tw1671366018156330315:=aq
def tw15624017503440286861:=aq
def tw4297172990552878887:=aq
def tw2513376235414721710:=aq
def tw7585675315999236476:=aq
def tw16950929271713673650:=aq
def tw13868193232790722189:=aq
def tw14730526178765632:=aq
def tw4079310881127992626:=aq
def tw4440490733713460977:=aq
def tw4206036215289159654:=aq
def tw9088280372612294784:=aq
def tw5014355771125872341:=aq
def tw11008701710899007160:=aq
def tw15160963206300233567:=aq
def tw11295149147895330936:=aq
def tw2004985894385654862:=aq
def tw17687679726601532221:=aq
def tw16820004802701398636:=aq
def tw5508489423265299222:=aq
def tw8729746736238003199:=aq
def tw12370569313133709978:=aq
def tw6758136754840243946:=aq
def tw10413583414920556456:=aq
def tw1670808610900561823:=aq
def tw4596855294484326252:=aq
def tw10749769237863610356:=aq
def tw17885228095794559668:=aq
def tw18324294941929073519:=aq
def tw13779278370629023862:=aq
def tw1573473316069699848:=aq
def tw9427942702952693284:=aq
def tw4327131439268847173:=aq
def tw3582530722359331689:=aq
def tw17885375506051297450:=aq
def tw16331027495165131818:=aq
def tw5352643362218505488:=aq
def tw17955311810083055206:=aq
def tw17987109012677249930:=aq
def tw3219948927306550248:=aq
def tw13665065302528047521:=aq
def tw4704637114785837543:=aq
def tw5763494647305703101:=aq
def tw7966666765837445455:=aq
def tw9617702834423391083:=aq
def tw7850695990328342406:=aq
def tw5860219678910782434:=aq
def tw7826551863682166188:=aq
def tw7852729398077724907:=aq
def tw12605770163002587682:=aq
def tw9426316333371399671:=aq
def tw8024333921288202434:=aq
def tw6747038075585756058:=aq
def tw10116001939055048981:=aq
def tw10910580975638094310:=aq
def tw8476907326334310215:=aq
def tw6121003862572292153:=aq
def tw17438592980309490147:=aq
def tw4337769271971215249:=aq
def tw6634159573611987885:=aq
def tw16078776673527258382:=aq
def tw18020454834970075156:=aq
def tw18100241120931462455:=aq
def tw12105803731908509194:=aq
def tw5189152122045074906:=aq
def tw248729615132908568:=aq
def tw5561984492351809661:=aq
def tw2030058660551266915:=aq
def tw9736892991848496988:=aq
def tw2793906600863954313:=aq
def tw6371456169785430710:=aq
def tw5338132037074640150:=aq
def tw6477486394850169588:=aq
def tw14594008373781707662:=aq
def tw17304694666468322773:=aq
def tw3460056806208215172:=aq
def tw1053444770271505193:=aq
def tw11094005794037398312:=aq
def tw2264668363662113773:=aq
def tw5991771946270573044:=aq
def tw1517998079481475827:=aq
def tw16878969139807218059:=aq
def tw7231071263426664099:=aq
def tw8672269021472056737:=aq
def tw16175157342713105481:=aq
def tw11510218338076020241:=aq
def tw11194042626184875489:=aq
def tw4792854888809962393:=aq
def tw4003507279186704317:=aq
def tw9893734613442056218:=aq
def tw1818463553825273054:=aq
def tw7103742953875308841:=aq
def tw9424804132053382903:=aq
def tw4674004676365374303:=aq
def tw4237260676852405434:=aq
def tw9803877080806319231:=aq
def tw16012470689208602273:=aq
def tw549585740793873925:=aq
def tw5966695588481865309:=aq
end PySem.W.Fast
open PySem PySem.W PyProof.Rows
theorem PySem.Challenge.cw_grouptable_s01_answers_holds : PySem.Challenge.rw_grouptable_s01_answers.Holds := by
 w_on;k_headS;(case hw=>exact⟨[.list []],by decide +kernel,by decide +kernel⟩)
 k_fillS
 refine L2.Du (r:=PySem.Challenge.rw_grouptable_s01_answers) (k:=10) (CX:=L2.fT) (ps:=["calls"]) (sp:=GT.tN) (by decide +kernel) rfl rfl ⟨rfl,by decide,by decide⟩ (fun w h Y=>W.kIn_of Y) ?F ?S (fun _ _ _ _ z=>z)
 case F=>
  intro w mg fa h Y KX G Yv
  refine' GT.all_mk KX G Yv ..
  any_goals first
   |k_is
   |exact⟨_,by k_is,_,_,_,_,_,_,_,_,_,by k_is,by k_is,by k_is⟩
   |exact⟨_,by k_is,by k_is,_,_,_,_,_,_,_,_,_,by k_is,by k_is,by k_is⟩
   |exact⟨by k_is,by k_is,by k_is⟩
   |exact W.mg_of KX G (by k_is)
   |(refine @And.left _ True ⟨?_,trivial⟩;constructor<;>first|exact W.mg_none_of KX G (by k_is)|exact⟨_,W.mg_of KX G (by k_is)⟩|(unfold L2.ez;k_is)|(constructor<;>k_is))
 case S=>
  intro K H xs a hO S6 aai hx
  cases hx with
  |cons h1 h2=>
   cases h2
   cases h1 with
   |lst hs ha=>
    have e:=L2.EM a.1 _ ha
    subst e
    obtain⟨r1,r2⟩:=GT.Hr (ns:=a.1) aai
    exact⟨_,a.1,PyRd01.answers a.1,rfl,⟨_,rfl,hs⟩,r1,r2,fun H' p hp=>.lst (L2.cy.of hp) (L2.EL _)⟩
