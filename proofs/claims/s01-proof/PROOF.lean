import PyProof.Rows.All
import Wide.All
import OpenK.AllK
import Wide.FinOn
import PyProof.EqAt
import PyProof.EqKinds
import PyProof.TupleCall
import KE.BitLaws
import Open.SpecLaws
import KE.OsHead
import KE.OsGo
import KE.KSortTupG
import KE.KLam
import KE.KDictOf
import KE.KRevIter
import PyProof.P3Eq
import KE.KNestM
import PyProof.ListRange
import PyProof.CollectIter
import PySem.Challenge.RW_racetally_s01_answers
set_option Elab.async false
set_option linter.all false
set_option maxRecDepth 100000
set_option maxHeartbeats 4000000
section
namespace Rc
open RgScore
def PARTS:Nat:=288807105787200
def HALF:Nat:=144403552893600
theorem parts_half:PARTS=2 * HALF:=by decide
theorem parts_pos:0 < PARTS:=by decide
theorem half_pos:0 < HALF:=by decide
def fr (z:Nat):Frac:=lowest z PARTS
theorem lowest_scale {k:Nat} (hk:0 < k) (n d:Nat):lowest (k * n) (k * d)=lowest n d:=by
 unfold lowest
 rw [Nat.gcd_mul_left]
 rw [Nat.mul_div_mul_left _ _ hk,Nat.mul_div_mul_left _ _ hk]
theorem lowest_parts (n d:Nat) (hd:0 < d):∃ g,0 < g∧n=g * (lowest n d).1∧d=g * (lowest n d).2:=by
 refine ⟨Nat.gcd n d,Nat.gcd_pos_of_pos_right _ hd,?_,?_⟩
 ·exact (Nat.mul_div_cancel' (Nat.gcd_dvd_left n d)).symm
 ·exact (Nat.mul_div_cancel' (Nat.gcd_dvd_right n d)).symm
theorem fr_parts (z:Nat):∃ g,0 < g∧z=g * (fr z).1∧PARTS=g * (fr z).2:=lowest_parts z PARTS parts_pos
theorem less_fr (a b:Nat):less (fr a) (fr b)=decide (a < b):=by
 obtain ⟨g,hg,ea,ep⟩:=fr_parts a
 obtain ⟨h,hh,eb,eq⟩:=fr_parts b
 unfold less
 congr 1
 apply propext
 have hp:=parts_pos
 have hgh:0 < g * h:=Nat.mul_pos hg hh
 have e1:(g * h) * ((fr a).1 * (fr b).2)=a * PARTS:=by
  have:a * PARTS=(g * (fr a).1) * (h * (fr b).2):=by rw [←ea,←eq]
  rw [this,Nat.mul_mul_mul_comm]
 have e2:(g * h) * ((fr b).1 * (fr a).2)=b * PARTS:=by
  have:b * PARTS=(h * (fr b).1) * (g * (fr a).2):=by rw [←eb,←ep]
  rw [this,Nat.mul_comm g h,Nat.mul_mul_mul_comm]
 constructor
 ·intro hlt
  have:=(Nat.mul_lt_mul_left hgh).mpr hlt
  rw [e1,e2] at this
  exact Nat.lt_of_mul_lt_mul_right this
 ·intro hlt
  have:(g * h) * ((fr a).1 * (fr b).2) < (g * h) * ((fr b).1 * (fr a).2):=by
   rw [e1,e2]
   exact (Nat.mul_lt_mul_right hp).mpr hlt
  exact Nat.lt_of_mul_lt_mul_left this
theorem plus_fr (a b:Nat):plus (fr a) (fr b)=fr (a + b):=by
 obtain ⟨g,hg,ea,ep⟩:=fr_parts a
 obtain ⟨h,hh,eb,eq⟩:=fr_parts b
 have hgh:0 < g * h:=Nat.mul_pos hg hh
 unfold plus
 rw [←lowest_scale hgh]
 have e1:(g * h) * ((fr a).1 * (fr b).2 + (fr b).1 * (fr a).2)=PARTS * (a + b):=by
  rw [Nat.mul_add]
  have h1:(g * h) * ((fr a).1 * (fr b).2)=a * PARTS:=by
   have:a * PARTS=(g * (fr a).1) * (h * (fr b).2):=by rw [←ea,←eq]
   rw [this,Nat.mul_mul_mul_comm]
  have h2:(g * h) * ((fr b).1 * (fr a).2)=b * PARTS:=by
   have:b * PARTS=(h * (fr b).1) * (g * (fr a).2):=by rw [←eb,←ep]
   rw [this,Nat.mul_comm g h,Nat.mul_mul_mul_comm]
  rw [h1,h2,Nat.mul_comm a,Nat.mul_comm b,←Nat.mul_add]
 have e2:(g * h) * ((fr a).2 * (fr b).2)=PARTS * PARTS:=by
  have:PARTS * PARTS=(g * (fr a).2) * (h * (fr b).2):=by rw [←ep,←eq]
  rw [this,Nat.mul_mul_mul_comm]
 rw [e1,e2,lowest_scale parts_pos]
 rfl
theorem fr_zero:fr 0=(0,1):=by decide
theorem fr_whole (k:Nat):fr (k * PARTS)=(k,1):=by
 unfold fr
 have:lowest (k * PARTS) PARTS=lowest (PARTS * k) (PARTS * 1):=by rw [Nat.mul_comm,Nat.mul_one]
 rw [this,lowest_scale parts_pos]
 unfold lowest
 simp
theorem fr_halves (k:Nat):lowest k 2=fr (k * HALF):=by
 unfold fr
 rw [parts_half,Nat.mul_comm k,Nat.mul_comm 2,lowest_scale half_pos]
theorem sumOf_fr_go:∀ (l:List Nat) (a:Nat),(l.map fr).foldl plus (fr a)=fr (a + l.sum)
 | [],a=>by simp
 | x::l,a=>by
  rw [List.map_cons,List.foldl_cons,plus_fr,sumOf_fr_go l,List.sum_cons,Nat.add_assoc]
theorem sumOf_fr (l:List Nat):sumOf (l.map fr)=fr l.sum:=by
 unfold sumOf
 rw [←fr_zero,sumOf_fr_go,Nat.zero_add]
theorem average_fr (n:Nat) (l:List Nat) (hd:l.length ∣ l.sum) (hl:l≠[]):average n (l.map fr)=fr (l.sum / l.length):=by
 unfold average
 rw [if_neg (by simpa using hl),sumOf_fr]
 obtain ⟨q,hq⟩:=hd
 have hpos:0 < l.length:=List.length_pos_iff.mpr hl
 obtain ⟨g,hg,ea,ep⟩:=fr_parts l.sum
 dsimp only
 rw [←lowest_scale hg,←ea,←Nat.mul_assoc,←ep,List.length_map]
 rw [hq,Nat.mul_div_cancel_left _ hpos,Nat.mul_comm PARTS,lowest_scale hpos]
 rfl
def insWorst (ps:List Nat) (k:Nat):List Nat→List Nat
 | []=>[k]
 | x::r=>if ps.getD k 0 < ps.getD x 0 then x::insWorst ps k r else k::x::r
def worstN (ps:List Nat) (l:List Nat):List Nat:=l.foldr (insWorst ps) []
theorem getD_fr (ps:List Nat) (k:Nat):(ps.map fr).getD k (0,1)=fr (ps.getD k 0):=by
 rw [←fr_zero]
 simp only [List.getD_eq_getElem?_getD,List.getElem?_map]
 cases ps[k]? <;> rfl
theorem insWorst_fr (ps:List Nat) (k:Nat):∀ l,insertWorst (ps.map fr) k l=insWorst ps k l
 | []=>rfl
 | x::r=>by
  simp only [insertWorst,insWorst,getD_fr,less_fr,decide_eq_true_eq,insWorst_fr ps k r]
theorem worst_fr (ps l:List Nat):worst (ps.map fr) l=worstN ps l:=by
 unfold worst worstN
 congr 1
 funext k l
 exact insWorst_fr ps k l
def insLeast (x:Nat):List Nat→List Nat
 | []=>[x]
 | y::l=>if y < x then y::insLeast x l else x::y::l
def risingN (l:List Nat):List Nat:=l.foldr insLeast []
theorem insLeast_fr (x:Nat):∀ l:List Nat,insertLeast (fr x) (l.map fr)=(insLeast x l).map fr
 | []=>rfl
 | y::l=>by
  simp only [List.map_cons,insertLeast,insLeast,less_fr,decide_eq_true_eq,insLeast_fr x l]
  split <;> rfl
theorem rising_fr:∀ l:List Nat,rising (l.map fr)=(risingN l).map fr
 | []=>rfl
 | x::l=>by
  show insertLeast (fr x) (rising (l.map fr))=(insLeast x (risingN l)).map fr
  rw [rising_fr l,insLeast_fr]
def saysN:List Nat→List Nat→Nat
 | [],[]=>0
 | _::_,[]=>1
 | [],_::_=>2
 | a::r,b::s=>if a < b then 1 else if b < a then 2 else saysN r s
theorem rowSays_fr:∀ a b:List Nat,rowSays (a.map fr) (b.map fr)=saysN a b
 | [],[]=>rfl
 | _::_,[]=>rfl
 | [],_::_=>rfl
 | a::r,b::s=>by
  simp only [List.map_cons,rowSays,saysN,less_fr,decide_eq_true_eq,rowSays_fr r s]
end Rc
end
section
namespace Rc
open RgScore
def isAvg:Option Line→Bool
 | some (.avg _)=>true
 | _=>false
def isDis:Option Line→Bool
 | some (.dis _)=>true
 | _=>false
def basePts (n:Nat):Option Line→Nat
 | some (.place _ p s)=>p * PARTS + (s - 1) * HALF
 | _=>(n + 1) * PARTS
def ownPts (n pen:Nat) (o:Option Line):Nat:=min (basePts n o + pen * PARTS) ((n + 1) * PARTS)
def PlaceOk (n:Nat) (o:Option Line):Prop:=∀ m p s,o=some (.place m p s)→1≤s∧p + s - 1≤n
theorem lineGives_eq {n pen:Nat} {o:Option Line} (h:PlaceOk n o):lineGives n pen o=if isAvg o=true then none else some (fr (ownPts n pen o)):=by
 have key:∀ x,(n + 1) * PARTS≤x→fr (min x ((n + 1) * PARTS))=(n + 1,1):=fun x hx=>by
  rw [Nat.min_eq_right hx,fr_whole]
 cases o with
 | none =>
  simp only [lineGives,isAvg,ownPts,basePts]
  rw [key _ (Nat.le_add_right _ _)]
  simp
 | some l =>
  cases l with
  | place m p s =>
   obtain ⟨hs,hn⟩:=h m p s rfl
   have e1:lowest (2 * p + s - 1) 2=fr (p * PARTS + (s - 1) * HALF):=by
    rw [fr_halves]
    refine congrArg fr ?_
    have h3:2 * p + s - 1=2 * p + (s - 1):=by omega
    have h4:p * PARTS=2 * p * HALF:=by rw [parts_half,Nat.mul_comm 2 p,Nat.mul_assoc]
    rw [h3,Nat.add_mul,h4]
   simp only [lineGives,isAvg,ownPts,basePts,Bool.false_eq_true,if_false,e1]
   have cap:p * PARTS + (s - 1) * HALF≤(n + 1) * PARTS:=by
    have hh:(s - 1) * HALF≤(s - 1) * PARTS:=Nat.mul_le_mul_left _ (by decide)
    have:p * PARTS + (s - 1) * PARTS=(p + (s - 1)) * PARTS:=by rw [Nat.add_mul]
    have h2:(p + (s - 1)) * PARTS≤(n + 1) * PARTS:=Nat.mul_le_mul_right _ (by omega)
    omega
   by_cases hp:pen=0
   ·subst hp
    rw [if_pos rfl,Nat.zero_mul,Nat.add_zero,Nat.min_eq_left cap]
   ·rw [if_neg hp,←fr_whole pen,plus_fr,←fr_whole (n + 1),less_fr]
    by_cases hlt:(n + 1) * PARTS < p * PARTS + (s - 1) * HALF + pen * PARTS
    ·rw [if_pos (decide_eq_true hlt),Nat.min_eq_right (Nat.le_of_lt hlt)]
    ·rw [if_neg (by simpa using hlt),Nat.min_eq_left (by omega)]
  | avg m=>rfl
  | boat m=>simp only [lineGives,isAvg,ownPts,basePts]; rw [key _ (Nat.le_add_right _ _)]; simp
  | out r k=>simp only [lineGives,isAvg,ownPts,basePts]; rw [key _ (Nat.le_add_right _ _)]; simp
  | race=>simp only [lineGives,isAvg,ownPts,basePts]; rw [key _ (Nat.le_add_right _ _)]; simp
  | miss m=>simp only [lineGives,isAvg,ownPts,basePts]; rw [key _ (Nat.le_add_right _ _)]; simp
  | dis m=>simp only [lineGives,isAvg,ownPts,basePts]; rw [key _ (Nat.le_add_right _ _)]; simp
  | pen m k=>simp only [lineGives,isAvg,ownPts,basePts]; rw [key _ (Nat.le_add_right _ _)]; simp
theorem ownPts_half (n pen:Nat) (o:Option Line):HALF ∣ ownPts n pen o:=by
 have hP:HALF ∣ PARTS:=⟨2,by decide⟩
 have h1:HALF ∣ basePts n o:=by
  unfold basePts
  split
  ·exact Nat.dvd_add (Nat.dvd_mul_left_of_dvd hP _) (Nat.dvd_mul_left _ _)
  ·exact Nat.dvd_mul_left_of_dvd hP _
 unfold ownPts
 rw [Nat.min_def]
 split
 ·exact Nat.dvd_add h1 (Nat.dvd_mul_left_of_dvd hP _)
 ·exact Nat.dvd_mul_left_of_dvd hP _
theorem ownPts_pos {n pen:Nat} {o:Option Line} (h:∀ m p s,o=some (.place m p s)→1≤p):0 < ownPts n pen o:=by
 have hb:0 < basePts n o:=by
  unfold basePts
  split
  ·have:=h _ _ _ rfl
   exact Nat.lt_of_lt_of_le (Nat.mul_pos this parts_pos) (Nat.le_add_right _ _)
  ·exact Nat.mul_pos (Nat.succ_pos _) parts_pos
 unfold ownPts
 have:0 < (n + 1) * PARTS:=Nat.mul_pos (Nat.succ_pos _) parts_pos
 omega
theorem len_dvd_half {k:Nat} (h0:0 < k) (h:k≤32):k ∣ HALF:=by
 have:∀ k:Fin 33,0 < k.val→k.val ∣ HALF:=by decide +kernel
 exact this ⟨k,by omega⟩ h0
theorem sum_dvd {d:Nat}:∀ {l:List Nat},(∀ x∈l,d ∣ x)→d ∣ l.sum
 | [],_=>by simp
 | x::l,h=>by
  rw [List.sum_cons]
  exact Nat.dvd_add (h x List.mem_cons_self) (sum_dvd fun y hy=>h y (List.mem_cons_of_mem _ hy))
def own1 (n:Nat) (b:Name) (ls:List Line):Nat:=ownPts n ((penOf ls b).getD 0) (ownOf ls b)
def othersN (n:Nat) (rs:List (List Line)) (b:Name):List Nat:=(rs.filter fun ls=>!isAvg (ownOf ls b)).map (own1 n b)
def avgN (n:Nat) (rs:List (List Line)) (b:Name):Nat:=if (othersN n rs b).length=0 then (n + 1) * PARTS else (othersN n rs b).sum / (othersN n rs b).length
def ptsN (n:Nat) (rs:List (List Line)) (b:Name):List Nat:=rs.map fun ls=>if isAvg (ownOf ls b)=true then avgN n rs b else own1 n b ls
def RacesOk (n:Nat) (rs:List (List Line)) (b:Name):Prop:=∀ ls∈rs,∀ m p s,ownOf ls b=some (.place m p s)→1≤p∧1≤s∧p + s - 1≤n
theorem zip_map_self {α β:Type} (f:α→β):∀ l:List α,l.zip (l.map f)=l.map fun x=>(x,f x)
 | []=>rfl
 | x::l=>by simp only [List.map_cons,List.zip_cons_cons,zip_map_self f l]
theorem given_eq {n:Nat} {rs:List (List Line)} {b:Name} (h:RacesOk n rs b) :
  (rs.zip (rs.map fun ls=>ownOf ls b)).map (fun (x:List Line×Option Line)=>lineGives n ((penOf x.1 b).getD 0) x.2)=rs.map fun ls=>if isAvg (ownOf ls b)=true then none else some (fr (own1 n b ls)):=by
 rw [zip_map_self,List.map_map]
 refine List.map_congr_left fun ls hl=>?_
 exact lineGives_eq fun m p s e=>(h ls hl m p s e).2
theorem given_some (n:Nat) (b:Name):∀ rs:List (List Line),(rs.map fun ls=>if isAvg (ownOf ls b)=true then none else some (fr (own1 n b ls))).filterMap (fun y=>y)=(othersN n rs b).map fr
 | []=>rfl
 | ls::rs=>by
  have ih:=given_some n b rs
  unfold othersN at ih ⊢
  rw [List.map_cons,List.filterMap_cons,List.filter_cons]
  cases e:isAvg (ownOf ls b) with
  | true=>simp only [if_true,Bool.not_true,Bool.false_eq_true,if_false]; exact ih
  | false=>simp only [Bool.false_eq_true,if_false,Bool.not_false,if_true,List.map_cons]; rw [ih]
theorem others_dvd {n:Nat} {rs:List (List Line)} {b:Name} (hr:rs.length≤32) (h0:(othersN n rs b).length≠0):(othersN n rs b).length ∣ (othersN n rs b).sum:=by
 have hle:(othersN n rs b).length≤32:=by
  unfold othersN
  rw [List.length_map]
  exact Nat.le_trans (List.length_filter_le _ _) hr
 refine Nat.dvd_trans (len_dvd_half (by omega) hle) (sum_dvd fun x hx=>?_)
 unfold othersN at hx
 obtain ⟨ls,_,rfl⟩:=List.mem_map.mp hx
 exact ownPts_half _ _ _
theorem mean_eq {n:Nat} {rs:List (List Line)} {b:Name} (hr:rs.length≤32):average n ((othersN n rs b).map fr)=fr (avgN n rs b):=by
 unfold avgN
 by_cases h0:(othersN n rs b).length=0
 ·rw [if_pos h0]
  have:othersN n rs b=[]:=List.length_eq_zero_iff.mp h0
  rw [this,fr_whole]
  rfl
 ·rw [if_neg h0]
  exact average_fr n _ (others_dvd hr h0) fun e=>h0 (by rw [e]; rfl)
theorem points_eq {n many:Nat} {rs:List (List Line)} {b:Name} (h:RacesOk n rs b) (hr:rs.length≤32):(rowOf n many rs b).points=(ptsN n rs b).map fr:=by
 unfold rowOf
 dsimp only
 rw [given_eq h,given_some,mean_eq hr,List.map_map]
 unfold ptsN
 rw [List.map_map]
 refine List.map_congr_left fun ls _=>?_
 show Option.getD (if isAvg (ownOf ls b)=true then none else some (fr (own1 n b ls))) (fr (avgN n rs b))=fr (if isAvg (ownOf ls b)=true then avgN n rs b else own1 n b ls)
 split <;> rfl
def mayN (rs:List (List Line)) (b:Name):List Nat:=(List.range rs.length).filter fun k=>!isDis ((rs.map fun ls=>ownOf ls b).getD k none)
def outN (n many:Nat) (rs:List (List Line)) (b:Name):List Nat:=(worstN (ptsN n rs b) (mayN rs b)).take many
def keptN (n many:Nat) (rs:List (List Line)) (b:Name):List Nat:=((List.range rs.length).filter fun k=>!(outN n many rs b).contains k).map fun k=>(ptsN n rs b).getD k 0
theorem ptsN_len (n:Nat) (rs:List (List Line)) (b:Name):(ptsN n rs b).length=rs.length:=by unfold ptsN; rw [List.length_map]
theorem not_dis (o:Option Line):(match o with | some (.dis _)=>false | _=>true)=!isDis o:=by
 cases o with
 | none=>rfl
 | some l=>cases l <;> rfl
theorem row_out {n many:Nat} {rs:List (List Line)} {b:Name} (h:RacesOk n rs b) (hr:rs.length≤32):(rowOf n many rs b).out=outN n many rs b:=by
 have hp:=points_eq (many:=many) h hr
 unfold rowOf at hp ⊢
 dsimp only at hp ⊢
 rw [hp,worst_fr,List.length_map,ptsN_len]
 unfold outN mayN
 congr 3
 funext k
 exact not_dis _
theorem row_counted {n many:Nat} {rs:List (List Line)} {b:Name} (h:RacesOk n rs b) (hr:rs.length≤32):(rowOf n many rs b).counted=(keptN n many rs b).map fr:=by
 have hp:=points_eq (many:=many) h hr
 have ho:=row_out (many:=many) h hr
 unfold rowOf at hp ho ⊢
 dsimp only at hp ho ⊢
 rw [ho,hp,List.length_map,ptsN_len]
 unfold keptN
 rw [List.map_map]
 refine List.map_congr_left fun k _=>?_
 exact getD_fr _ _
theorem row_total {n many:Nat} {rs:List (List Line)} {b:Name} (h:RacesOk n rs b) (hr:rs.length≤32):(rowOf n many rs b).total=fr (keptN n many rs b).sum:=by
 have hc:=row_counted (many:=many) h hr
 show sumOf (rowOf n many rs b).counted=_
 rw [hc,sumOf_fr]
theorem row_best {n many:Nat} {rs:List (List Line)} {b:Name} (h:RacesOk n rs b) (hr:rs.length≤32):(rowOf n many rs b).best=(risingN (keptN n many rs b)).map fr:=by
 have hc:=row_counted (many:=many) h hr
 show rising (rowOf n many rs b).counted=_
 rw [hc,rising_fr]
theorem row_back {n many:Nat} {rs:List (List Line)} {b:Name} (h:RacesOk n rs b) (hr:rs.length≤32):(rowOf n many rs b).back=(ptsN n rs b).reverse.map fr:=by
 have hc:=points_eq (many:=many) h hr
 show (rowOf n many rs b).points.reverse=_
 rw [hc,List.map_reverse]
structure Score where
 total:Nat
 best:List Nat
 back:List Nat
 deriving DecidableEq
def scoreN (n many:Nat) (rs:List (List Line)) (b:Name):Score:=⟨(keptN n many rs b).sum,risingN (keptN n many rs b),(ptsN n rs b).reverse⟩
def pyLt:List Nat→List Nat→Bool
 | [],[]=>false
 | [],_::_=>true
 | _::_,[]=>false
 | x::r,y::t=>decide (x < y) || (!decide (y < x) && pyLt r t)
def whoN (a b:Score):Nat×Nat:=if a.total < b.total then (1,1) else if b.total < a.total then (2,1) else
 if pyLt a.best b.best=true then (1,2) else if pyLt b.best a.best=true then (2,2) else
 if pyLt a.back b.back=true then (1,3) else if pyLt b.back a.back=true then (2,3) else (0,0)
theorem says_sum:∀ a b:List Nat,(∀ x∈a,0 < x)→(∀ x∈b,0 < x)→a.sum=b.sum→saysN a b=if pyLt a b=true then 1 else if pyLt b a=true then 2 else 0
 | [],[],_,_,_=>rfl
 | x::a,[],h,_,e=>by
  have:=h x List.mem_cons_self
  rw [List.sum_cons,List.sum_nil] at e
  omega
 | [],y::b,_,h,e=>by
  have:=h y List.mem_cons_self
  rw [List.sum_cons,List.sum_nil] at e
  omega
 | x::a,y::b,ha,hb,e=>by
  simp only [saysN,pyLt]
  by_cases h1:x < y
  ·simp [h1]
  ·by_cases h2:y < x
   ·have h3:¬ x < y:=h1
    simp [h2,h3]
   ·have exy:x=y:=by omega
    subst exy
    rw [List.sum_cons,List.sum_cons] at e
    have ih:=says_sum a b (fun z hz=>ha z (List.mem_cons_of_mem _ hz)) (fun z hz=>hb z (List.mem_cons_of_mem _ hz)) (by omega)
    simp only [Nat.lt_irrefl,if_false,decide_false,Bool.false_or,Bool.not_false,Bool.true_and]
    exact ih
theorem says_len:∀ a b:List Nat,a.length=b.length→saysN a b=if pyLt a b=true then 1 else if pyLt b a=true then 2 else 0
 | [],[],_=>rfl
 | x::a,[],e=>by simp at e
 | [],y::b,e=>by simp at e
 | x::a,y::b,e=>by
  simp only [saysN,pyLt]
  by_cases h1:x < y
  ·simp [h1]
  ·by_cases h2:y < x
   ·simp [h2,h1]
   ·have exy:x=y:=by omega
    subst exy
    have ih:=says_len a b (by simpa using e)
    simp only [Nat.lt_irrefl,if_false,decide_false,Bool.false_or,Bool.not_false,Bool.true_and]
    exact ih
theorem insLeast_perm (x:Nat):∀ l:List Nat,(insLeast x l).Perm (x::l)
 | []=>.refl _
 | y::l=>by
  unfold insLeast
  split
  ·exact ((insLeast_perm x l).cons y).trans (.swap x y l)
  ·exact .refl _
theorem risingN_perm:∀ l:List Nat,(risingN l).Perm l
 | []=>.refl _
 | x::l=>(insLeast_perm x (risingN l)).trans ((risingN_perm l).cons x)
theorem sum_perm {a b:List Nat} (h:a.Perm b):a.sum=b.sum:=by
 induction h with
 | nil=>rfl
 | cons x _ ih=>rw [List.sum_cons,List.sum_cons,ih]
 | swap x y l=>simp only [List.sum_cons]; omega
 | trans _ _ i j=>exact i.trans j
theorem avg_pos {n:Nat} {rs:List (List Line)} {b:Name} (h:RacesOk n rs b):0 < avgN n rs b:=by
 have each:∀ x∈othersN n rs b,0 < x∧HALF ∣ x:=fun x hx=>by
  unfold othersN at hx
  obtain ⟨ls,hls,rfl⟩:=List.mem_map.mp hx
  exact ⟨ownPts_pos fun m p s e=>(h ls (List.mem_filter.mp hls).1 m p s e).1,ownPts_half _ _ _⟩
 unfold avgN
 split
 ·exact Nat.mul_pos (Nat.succ_pos _) parts_pos
 ·rename_i h0
  refine Nat.div_pos ?_ (by omega)
  have:∀ l:List Nat,(∀ x∈l,0 < x)→l.length≤l.sum:=by
   intro l
   induction l with
   | nil=>intro _; simp
   | cons x l ih =>
    intro hl
    have:=hl x List.mem_cons_self
    have:=ih fun y hy=>hl y (List.mem_cons_of_mem _ hy)
    rw [List.length_cons,List.sum_cons]
    omega
  exact this _ fun x hx=>(each x hx).1
theorem pts_pos {n:Nat} {rs:List (List Line)} {b:Name} (h:RacesOk n rs b):∀ x∈ptsN n rs b,0 < x:=by
 intro x hx
 unfold ptsN at hx
 obtain ⟨ls,hls,rfl⟩:=List.mem_map.mp hx
 split
 ·exact avg_pos h
 ·exact ownPts_pos fun m p s e=>(h ls hls m p s e).1
theorem kept_pos {n many:Nat} {rs:List (List Line)} {b:Name} (h:RacesOk n rs b):∀ x∈keptN n many rs b,0 < x:=by
 intro x hx
 unfold keptN at hx
 obtain ⟨k,hk,rfl⟩:=List.mem_map.mp hx
 have hk':k < (ptsN n rs b).length:=by rw [ptsN_len]; exact List.mem_range.mp (List.mem_filter.mp hk).1
 rw [List.getD_eq_getElem?_getD,List.getElem?_eq_getElem hk']
 exact pts_pos h _ (List.getElem_mem _)
theorem stand_eq {n many:Nat} {rs:List (List Line)} {a b:Name} (ha:RacesOk n rs a) (hb:RacesOk n rs b) (hr:rs.length≤32):stand (rowOf n many rs a) (rowOf n many rs b)=whoN (scoreN n many rs a) (scoreN n many rs b):=by
 unfold stand
 rw [row_total ha hr,row_total hb hr,row_best ha hr,row_best hb hr,row_back ha hr,row_back hb hr,less_fr,less_fr,rowSays_fr,rowSays_fr]
 unfold whoN scoreN
 dsimp only
 simp only [decide_eq_true_eq]
 split
 ·rfl
 ·split
  ·rfl
  ·rename_i h1 h2
   have e:(keptN n many rs a).sum=(keptN n many rs b).sum:=by omega
   rw [says_sum _ _ (fun x hx=>kept_pos ha x ((risingN_perm _).mem_iff.mp hx)) (fun x hx=>kept_pos hb x ((risingN_perm _).mem_iff.mp hx)) (by rw [sum_perm (risingN_perm _),sum_perm (risingN_perm _),e])]
   rw [says_len _ _ (by rw [List.length_reverse,List.length_reverse,ptsN_len,ptsN_len])]
   generalize pyLt (risingN (keptN n many rs a)) (risingN (keptN n many rs b))=x1
   generalize pyLt (risingN (keptN n many rs b)) (risingN (keptN n many rs a))=x2
   generalize pyLt (ptsN n rs a).reverse (ptsN n rs b).reverse=x3
   generalize pyLt (ptsN n rs b).reverse (ptsN n rs a).reverse=x4
   cases x1 <;> cases x2 <;> cases x3 <;> cases x4 <;> rfl
end Rc
end
section
namespace Rc
open RgScore
structure Ord (κ:Type) where
 lt:κ→κ→Bool
 irr:∀ a,lt a a=false
 neg:∀ a b c,lt a c=true→lt a b=true∨lt b c=true
 tot:∀ a b,lt a b=false→lt b a=false→a=b
 asym:∀ a b,lt a b=true→lt b a=false
section
variable {κ β:Type} (O:Ord κ) (key:β→κ)
def insK (b:β):List β→List β
 | []=>[b]
 | a::l=>if O.lt (key a) (key b)=true then a::insK b l else b::a::l
def sortK (l:List β):List β:=l.foldr (insK O key) []
def sameK (c:κ) (x:β):Bool:=!O.lt (key x) c && !O.lt c (key x)
def SortedK (l:List β):Prop:=l.Pairwise fun x y=>O.lt (key y) (key x)=false
variable {O key}
theorem sameK_iff {c:κ} {x:β}:sameK O key c x=true↔key x=c:=by
 unfold sameK
 constructor
 ·intro h
  rw [Bool.and_eq_true,Bool.not_eq_true',Bool.not_eq_true'] at h
  exact O.tot _ _ h.1 h.2
 ·intro h
  rw [h,O.irr]
  rfl
theorem insK_perm (b:β):∀ l:List β,(insK O key b l).Perm (b::l)
 | []=>.refl _
 | a::l=>by
  unfold insK
  split
  ·exact ((insK_perm b l).cons a).trans (.swap b a l)
  ·exact .refl _
theorem sortK_perm:∀ l:List β,(sortK O key l).Perm l
 | []=>.refl _
 | x::l=>(insK_perm x (sortK O key l)).trans ((sortK_perm l).cons x)
theorem le_trans' {a b c:κ} (h1:O.lt b a=false) (h2:O.lt c b=false):O.lt c a=false:=by
 cases h:O.lt c a with
 | false=>rfl
 | true =>
  rcases O.neg c b a h with h' | h'
  ·rw [h2] at h'; cases h'
  ·rw [h1] at h'; cases h'
theorem insK_sorted (b:β):∀ {l:List β},SortedK O key l→SortedK O key (insK O key b l)
 | [],_=>by unfold insK SortedK; simp
 | a::l,h=>by
  unfold SortedK at h ⊢
  obtain ⟨h1,h2⟩:=List.pairwise_cons.mp h
  unfold insK
  split
  ·rename_i hlt
   refine List.pairwise_cons.mpr ⟨fun y hy=>?_,insK_sorted b (l:=l) h2⟩
   rcases List.mem_cons.mp ((insK_perm b l).mem_iff.mp hy) with rfl | hy
   ·exact O.asym _ _ hlt
   ·exact h1 y hy
  ·rename_i hlt
   have hlt':O.lt (key a) (key b)=false:=by simpa using hlt
   refine List.pairwise_cons.mpr ⟨fun y hy=>?_,h⟩
   rcases List.mem_cons.mp hy with rfl | hy
   ·exact hlt'
   ·exact le_trans' hlt' (h1 y hy)
theorem sortK_sorted:∀ l:List β,SortedK O key (sortK O key l)
 | []=>.nil
 | x::l=>insK_sorted x (sortK_sorted l)
theorem insK_same (c:κ) (b:β):∀ {l:List β},SortedK O key l→(insK O key b l).filter (sameK O key c)=(b::l).filter (sameK O key c)
 | [],_=>rfl
 | a::l,h=>by
  unfold insK
  split
  ·rename_i hlt
   have ih:=insK_same c b (l:=l) (List.pairwise_cons.mp h).2
   rw [List.filter_cons,ih]
   rw [List.filter_cons (x:=b),List.filter_cons (x:=b),List.filter_cons (x:=a)]
   cases e1:sameK O key c a with
   | false=>simp
   | true =>
    cases e2:sameK O key c b with
    | false=>simp
    | true =>
     have:=sameK_iff.mp e1
     have:=sameK_iff.mp e2
     rw [show key a=key b by rw [sameK_iff.mp e1,sameK_iff.mp e2],O.irr] at hlt
     cases hlt
  ·rfl
theorem sortK_same (c:κ):∀ l:List β,(sortK O key l).filter (sameK O key c)=l.filter (sameK O key c)
 | []=>rfl
 | x::l=>by
  show (insK O key x (sortK O key l)).filter _=_
  rw [insK_same c x (sortK_sorted l),List.filter_cons,List.filter_cons,sortK_same c l]
theorem filter_none {c:κ} {l:List β} (h:∀ y∈l,O.lt c (key y)=true):l.filter (sameK O key c)=[]:=by
 refine List.filter_eq_nil_iff.mpr fun y hy hs=>?_
 have:=sameK_iff.mp hs
 have hh:=h y hy
 rw [this,O.irr] at hh
 cases hh
theorem uniqK:∀ (l m:List β),SortedK O key l→SortedK O key m→(∀ c,l.filter (sameK O key c)=m.filter (sameK O key c))→l=m
 | [],[],_,_,_=>rfl
 | [],q::m,_,_,h=>by
  have t:=h (key q)
  rw [List.filter_cons,if_pos (sameK_iff.mpr rfl)] at t
  cases t
 | p::l,[],_,_,h=>by
  have t:=h (key p)
  rw [List.filter_cons,if_pos (sameK_iff.mpr rfl)] at t
  cases t
 | p::l,q::m,hl,hm,h=>by
  obtain ⟨l1,l2⟩:=List.pairwise_cons.mp hl
  obtain ⟨m1,m2⟩:=List.pairwise_cons.mp hm
  have low:∀ {x y:β} {l m:List β},(∀ z∈m,O.lt (key z) (key y)=false)→(∀ c,(x::l).filter (sameK O key c)=(y::m).filter (sameK O key c))→O.lt (key x) (key y)=false:=by
   intro x y l m hm h
   cases e:O.lt (key x) (key y) with
   | false=>rfl
   | true =>
    have t:=h (key x)
    rw [List.filter_cons,if_pos (sameK_iff.mpr rfl),filter_none (l:=y::m)] at t
    ·cases t
    ·intro z hz
     rcases List.mem_cons.mp hz with rfl | hz
     ·exact e
     ·rcases O.neg _ (key z) _ e with h' | h'
      ·exact h'
      ·rw [hm z hz] at h'; cases h'
  have ek:key p=key q:=O.tot _ _ (low m1 h) (low l1 fun c=>(h c).symm)
  have t:=h (key p)
  rw [List.filter_cons,if_pos (sameK_iff.mpr rfl),List.filter_cons,if_pos (sameK_iff.mpr ek.symm)] at t
  have epq:=(List.cons.inj t).1
  subst epq
  rw [uniqK l m l2 m2 fun c=>?_]
  have t:=h c
  rw [List.filter_cons,List.filter_cons] at t
  split at t
  ·exact (List.cons.inj t).2
  ·exact t
theorem sortK_only {l out:List β} (hs:SortedK O key out) (hf:∀ c,out.filter (sameK O key c)=l.filter (sameK O key c)):out=sortK O key l :=
 uniqK _ _ hs (sortK_sorted l) fun c=>(hf c).trans (sortK_same c l).symm
end
def natO:Ord Nat where
 lt a b:=decide (a < b)
 irr a:=by simp
 neg a b c h:=by simp only [decide_eq_true_eq] at *; omega
 tot a b h1 h2:=by simp only [decide_eq_false_iff_not] at *; omega
 asym a b h:=by simp only [decide_eq_true_eq,decide_eq_false_iff_not] at *; omega
def intO:Ord Int where
 lt a b:=decide (a < b)
 irr a:=by simp
 neg a b c h:=by simp only [decide_eq_true_eq] at *; omega
 tot a b h1 h2:=by simp only [decide_eq_false_iff_not] at *; omega
 asym a b h:=by simp only [decide_eq_true_eq,decide_eq_false_iff_not] at *; omega
theorem risingN_sort:∀ l:List Nat,risingN l=sortK natO id l:=by
 have ins:∀ x l,insLeast x l=insK natO id x l:=by
  intro x l
  induction l with
  | nil=>rfl
  | cons y l ih =>
   simp only [insLeast,insK,natO,id,decide_eq_true_eq]
   simp only [natO] at ih
   rw [ih]
 intro l
 induction l with
 | nil=>rfl
 | cons x l ih =>
  show insLeast x (risingN l)=insK natO id x (sortK natO id l)
  rw [ih,ins]
theorem rise_uniq:∀ {a b:List Nat},a.Perm b→a.Pairwise (·≤·)→b.Pairwise (·≤·)→a=b:=by
 intro a b hp ha hb
 exact hp.eq_of_pairwise (le:=fun x y=>x≤y) (fun x y _ _ h1 h2=>Nat.le_antisymm h1 h2) ha hb
theorem risingN_sorted (l:List Nat):(risingN l).Pairwise (·≤·):=by
 rw [risingN_sort]
 refine (sortK_sorted l).imp fun {x y} h=>?_
 have:=of_decide_eq_false (show decide (y < x)=false from h)
 omega
theorem rising_only {l out:List Nat} (hp:out.Perm l) (hs:out.Pairwise (·≤·)):out=risingN l :=
 rise_uniq (hp.trans (risingN_perm l).symm) hs (risingN_sorted l)
theorem mergeSort_rising (l:List Nat):l.mergeSort=risingN l:=by
 refine rising_only (List.mergeSort_perm l _) ?_
 have:=List.pairwise_mergeSort (le:=fun a b:Nat=>decide (a≤b)) (by intro a b c h1 h2; simp only [decide_eq_true_eq] at *; omega) (by intro a b; simp only [Bool.or_eq_true,decide_eq_true_eq]; omega) l
 exact this.imp fun {a b} h=>by simpa using h
theorem worstN_sort (ps:List Nat) (l:List Nat):worstN ps l=sortK intO (fun k=>-((ps.getD k 0:Nat):Int)) l:=by
 have ins:∀ x l,insWorst ps x l=insK intO (fun k=>-((ps.getD k 0:Nat):Int)) x l:=by
  intro x l
  induction l with
  | nil=>rfl
  | cons y l ih =>
   simp only [insWorst,insK,intO,decide_eq_true_eq]
   simp only [intO] at ih
   rw [ih]
   have:(ps.getD x 0 < ps.getD y 0)↔(-((ps.getD y 0:Nat):Int) < -((ps.getD x 0:Nat):Int)):=by omega
   simp only [this]
 induction l with
 | nil=>rfl
 | cons x l ih =>
  show insWorst ps x (worstN ps l)=insK intO _ x (sortK intO _ l)
  rw [ih,ins]
theorem pyLt_irr:∀ a:List Nat,pyLt a a=false
 | []=>rfl
 | x::r=>by simp [pyLt,pyLt_irr r]
theorem pyLt_tot:∀ a b:List Nat,pyLt a b=false→pyLt b a=false→a=b
 | [],[],_,_=>rfl
 | [],_::_,h,_=>by cases h
 | _::_,[],_,h=>by cases h
 | x::a,y::b,h1,h2=>by
  simp only [pyLt,Bool.or_eq_false_iff,decide_eq_false_iff_not,Bool.and_eq_false_iff,Bool.not_eq_false',decide_eq_true_eq] at h1 h2
  have e:x=y:=by omega
  subst e
  rw [pyLt_tot a b (by rcases h1.2 with h | h; omega; exact h) (by rcases h2.2 with h | h; omega; exact h)]
theorem pyLt_asym:∀ a b:List Nat,pyLt a b=true→pyLt b a=false
 | [],[],h=>by cases h
 | [],_::_,_=>rfl
 | _::_,[],h=>by cases h
 | x::a,y::b,h=>by
  simp only [pyLt,Bool.or_eq_true,decide_eq_true_eq,Bool.and_eq_true,Bool.not_eq_true',decide_eq_false_iff_not] at h
  simp only [pyLt,Bool.or_eq_false_iff,decide_eq_false_iff_not,Bool.and_eq_false_iff,Bool.not_eq_false',decide_eq_true_eq]
  rcases h with h | ⟨h,h'⟩
  ·exact ⟨by omega,.inl h⟩
  ·by_cases e:x < y
   ·exact ⟨by omega,.inl e⟩
   ·exact ⟨by omega,.inr (pyLt_asym a b h')⟩
theorem pyLt_neg:∀ a b c:List Nat,pyLt a c=true→pyLt a b=true∨pyLt b c=true
 | [],_,[],h=>by cases h
 | [],[],_::_,_=>.inr rfl
 | [],_::_,_::_,_=>.inl rfl
 | _::_,_,[],h=>by cases h
 | _::_,[],_::_,_=>.inr rfl
 | x::a,y::b,z::c,h=>by
  simp only [pyLt,Bool.or_eq_true,decide_eq_true_eq,Bool.and_eq_true,Bool.not_eq_true',decide_eq_false_iff_not] at h ⊢
  rcases h with h | ⟨h,h'⟩
  ·omega
  ·by_cases e1:x < y
   ·exact .inl (.inl e1)
   ·by_cases e2:y < z
    ·exact .inr (.inl e2)
    ·rcases pyLt_neg a b c h' with h'' | h''
     ·exact .inl (.inr ⟨by omega,h''⟩)
     ·exact .inr (.inr ⟨by omega,h''⟩)
def scoreLt (a b:Score):Bool :=
 if a.total=b.total then (if a.best=b.best then pyLt a.back b.back else pyLt a.best b.best) else decide (a.total < b.total)
theorem who_one (a b:Score):((whoN a b).1==1)=scoreLt a b:=by
 unfold whoN scoreLt
 by_cases h1:a.total < b.total
 ·rw [if_pos h1,if_neg (show ¬ a.total=b.total by omega),decide_eq_true h1]; rfl
 ·by_cases h2:b.total < a.total
  ·rw [if_neg h1,if_pos h2,if_neg (show ¬ a.total=b.total by omega),decide_eq_false h1]; rfl
  ·rw [if_neg h1,if_neg h2,if_pos (show a.total=b.total by omega)]
   cases e1:pyLt a.best b.best with
   | true =>
    rw [if_pos rfl,if_neg (show ¬ a.best=b.best by intro e; rw [e,pyLt_irr] at e1; cases e1)]; rfl
   | false =>
    cases e2:pyLt b.best a.best with
    | true =>
     rw [if_neg Bool.false_ne_true,if_pos rfl,if_neg (show ¬ a.best=b.best by intro e; rw [e,pyLt_irr] at e2; cases e2)]; rfl
    | false =>
     rw [if_neg Bool.false_ne_true,if_neg Bool.false_ne_true,if_pos (pyLt_tot _ _ e1 e2)]
     cases e3:pyLt a.back b.back with
     | true=>rw [if_pos rfl]; rfl
     | false =>
      rw [if_neg Bool.false_ne_true]
      cases e4:pyLt b.back a.back with
      | true=>rw [if_pos rfl]; rfl
      | false=>rw [if_neg Bool.false_ne_true]; rfl
theorem who_zero (a b:Score):((whoN a b).1==0)=decide (a=b):=by
 unfold whoN
 by_cases h1:a.total < b.total
 ·rw [if_pos h1,decide_eq_false (by intro e; rw [e] at h1; omega)]; rfl
 ·by_cases h2:b.total < a.total
  ·rw [if_neg h1,if_pos h2,decide_eq_false (by intro e; rw [e] at h2; omega)]; rfl
  ·rw [if_neg h1,if_neg h2]
   cases e1:pyLt a.best b.best with
   | true =>
    rw [if_pos rfl,decide_eq_false (by intro e; rw [e,pyLt_irr] at e1; cases e1)]; rfl
   | false =>
    cases e2:pyLt b.best a.best with
    | true =>
     rw [if_neg Bool.false_ne_true,if_pos rfl,decide_eq_false (by intro e; rw [e,pyLt_irr] at e2; cases e2)]; rfl
    | false =>
     rw [if_neg Bool.false_ne_true,if_neg Bool.false_ne_true]
     cases e3:pyLt a.back b.back with
     | true=>rw [if_pos rfl,decide_eq_false (by intro e; rw [e,pyLt_irr] at e3; cases e3)]; rfl
     | false =>
      rw [if_neg Bool.false_ne_true]
      cases e4:pyLt b.back a.back with
      | true=>rw [if_pos rfl,decide_eq_false (by intro e; rw [e,pyLt_irr] at e4; cases e4)]; rfl
      | false =>
       rw [if_neg Bool.false_ne_true,decide_eq_true]; rfl
       have x1:a.total=b.total:=by omega
       have x2:=pyLt_tot _ _ e1 e2
       have x3:=pyLt_tot _ _ e3 e4
       cases a; cases b
       simp only at x1 x2 x3
       subst x1 x2 x3
       rfl
theorem scoreLt_asym (a b:Score) (h:scoreLt a b=true):scoreLt b a=false:=by
 unfold scoreLt at *
 by_cases h1:a.total=b.total
 ·rw [if_pos h1] at h
  rw [if_pos h1.symm]
  by_cases h2:a.best=b.best
  ·rw [if_pos h2] at h; rw [if_pos h2.symm]; exact pyLt_asym _ _ h
  ·rw [if_neg h2] at h; rw [if_neg (fun e=>h2 e.symm)]; exact pyLt_asym _ _ h
 ·rw [if_neg h1] at h
  rw [if_neg (fun e=>h1 e.symm)]
  simp only [decide_eq_true_eq] at h
  simp only [decide_eq_false_iff_not]
  omega
theorem scoreLt_tot (a b:Score) (h1:scoreLt a b=false) (h2:scoreLt b a=false):a=b:=by
 unfold scoreLt at *
 by_cases e1:a.total=b.total
 ·rw [if_pos e1] at h1
  rw [if_pos e1.symm] at h2
  by_cases e2:a.best=b.best
  ·rw [if_pos e2] at h1; rw [if_pos e2.symm] at h2
   have e3:=pyLt_tot _ _ h1 h2
   cases a; cases b
   simp only at e1 e2 e3
   subst e1 e2 e3
   rfl
  ·rw [if_neg e2] at h1; rw [if_neg (fun e=>e2 e.symm)] at h2
   exact absurd (pyLt_tot _ _ h1 h2) e2
 ·rw [if_neg e1] at h1
  rw [if_neg (fun e=>e1 e.symm)] at h2
  simp only [decide_eq_false_iff_not] at h1 h2
  omega
theorem scoreLt_neg (a b c:Score) (h:scoreLt a c=true):scoreLt a b=true∨scoreLt b c=true:=by
 unfold scoreLt at *
 by_cases e1:a.total=b.total
 ·by_cases e2:b.total=c.total
  ·rw [if_pos e1,if_pos e2]
   rw [if_pos (e1.trans e2)] at h
   by_cases f1:a.best=b.best
   ·by_cases f2:b.best=c.best
    ·rw [if_pos f1,if_pos f2]
     rw [if_pos (f1.trans f2)] at h
     exact pyLt_neg _ _ _ h
    ·rw [if_pos f1,if_neg f2]
     rw [if_neg (by rw [f1]; exact f2),f1] at h
     exact .inr h
   ·by_cases f2:b.best=c.best
    ·rw [if_neg f1]
     rw [if_neg (by rw [←f2]; exact f1),←f2] at h
     exact .inl h
    ·rw [if_neg f1,if_neg f2]
     by_cases f3:a.best=c.best
     ·rw [if_pos f3] at h
      rw [f3]
      cases g:pyLt c.best b.best with
      | true=>exact .inl rfl
      | false =>
       cases g':pyLt b.best c.best with
       | true=>exact .inr rfl
       | false=>exact absurd (pyLt_tot _ _ g' g) f2
     ·rw [if_neg f3] at h
      exact pyLt_neg _ _ _ h
  ·rw [if_neg (by omega)] at h
   rw [if_neg e2]
   simp only [decide_eq_true_eq] at h ⊢
   exact .inr (by omega)
 ·by_cases e2:b.total=c.total
  ·rw [if_neg (by omega)] at h
   rw [if_neg e1]
   simp only [decide_eq_true_eq] at h ⊢
   exact .inl (by omega)
  ·rw [if_neg e1,if_neg e2]
   simp only [decide_eq_true_eq]
   by_cases e3:a.total=c.total
   ·omega
   ·rw [if_neg e3] at h
    simp only [decide_eq_true_eq] at h
    omega
def scoreO:Ord Score where
 lt:=scoreLt
 irr a:=by
  cases h:scoreLt a a with
  | false=>rfl
  | true=>rw [scoreLt_asym a a h] at h; cases h
 neg:=scoreLt_neg
 tot:=scoreLt_tot
 asym:=scoreLt_asym
section
variable {n many:Nat} {rs:List (List Line)}
theorem place_eq {bs:List Name} {b:Name} (hb:b∈bs) (h:∀ m∈bs,RacesOk n rs m) (hr:rs.length≤32) :
  placeIn (bs.map (rowOf n many rs)) (rowOf n many rs b)=(1 + ((bs.map (scoreN n many rs)).filter fun s=>scoreLt s (scoreN n many rs b)).length,((bs.map (scoreN n many rs)).filter fun s=>decide (s=scoreN n many rs b)).length):=by
 unfold placeIn
 rw [List.filter_map,List.filter_map,List.filter_map,List.filter_map,List.length_map,List.length_map,List.length_map,List.length_map]
 have e1:bs.filter ((fun a:Row=>(stand a (rowOf n many rs b)).1==1) ∘ rowOf n many rs)=bs.filter ((fun s=>scoreLt s (scoreN n many rs b)) ∘ scoreN n many rs) :=
  List.filter_congr fun m hm=>by
   show ((stand (rowOf n many rs m) (rowOf n many rs b)).1==1)=scoreLt (scoreN n many rs m) (scoreN n many rs b)
   rw [stand_eq (h m hm) (h b hb) hr,who_one]
 have e2:bs.filter ((fun a:Row=>(stand a (rowOf n many rs b)).1==0) ∘ rowOf n many rs)=bs.filter ((fun s=>decide (s=scoreN n many rs b)) ∘ scoreN n many rs) :=
  List.filter_congr fun m hm=>by
   show ((stand (rowOf n many rs m) (rowOf n many rs b)).1==0)=decide (scoreN n many rs m=scoreN n many rs b)
   rw [stand_eq (h m hm) (h b hb) hr,who_zero]
 rw [e1,e2]
theorem order_go (g:Name→Row) (k:Name→Score):∀ (l:List (Name×Nat)),(∀ x∈l,∀ y∈l,stand (g x.1) (g y.1)=whoN (k x.1) (k y.1)) →
  (l.map fun p=>(g p.1,p.2)).foldr insertRow []=(sortK scoreO (fun p:Name×Nat=>k p.1) l).map fun p=>(g p.1,p.2):=by
 intro l
 induction l with
 | nil=>intro _; rfl
 | cons x l ih =>
  intro h
  show insertRow (g x.1,x.2) ((l.map fun p=>(g p.1,p.2)).foldr insertRow [])=(insK scoreO (fun p:Name×Nat=>k p.1) x (sortK scoreO (fun p:Name×Nat=>k p.1) l)).map _
  rw [ih fun y hy z hz=>h y (List.mem_cons_of_mem _ hy) z (List.mem_cons_of_mem _ hz)]
  have hm:∀ y∈sortK scoreO (fun p:Name×Nat=>k p.1) l,y∈l:=fun y hy=>(sortK_perm l).mem_iff.mp hy
  revert hm
  generalize sortK scoreO (fun p:Name×Nat=>k p.1) l=m
  intro hm
  induction m with
  | nil=>rfl
  | cons a m ih2 =>
   have e:=h a (List.mem_cons_of_mem _ (hm a List.mem_cons_self)) x List.mem_cons_self
   simp only [List.map_cons,insertRow,insK]
   rw [e]
   have w:=who_one (k a.1) (k x.1)
   by_cases hl:scoreLt (k a.1) (k x.1)=true
   ·rw [if_pos (by rw [hl] at w; simpa using w),if_pos (show scoreO.lt (k a.1) (k x.1)=true from hl),List.map_cons]
    rw [ih2 fun y hy=>hm y (List.mem_cons_of_mem _ hy)]
   ·rw [if_neg (by intro e1; rw [e1] at w; exact hl w.symm),if_neg (show ¬ scoreO.lt (k a.1) (k x.1)=true from hl)]
    rfl
theorem order_eq {bs:List Name} (h:∀ m∈bs,RacesOk n rs m) (hr:rs.length≤32) :
  orderIn (bs.map (rowOf n many rs))=(sortK scoreO (fun p:Name×Nat=>scoreN n many rs p.1) bs.zipIdx).map Prod.snd:=by
 unfold orderIn
 have e:(bs.map (rowOf n many rs)).zipIdx=bs.zipIdx.map fun p=>(rowOf n many rs p.1,p.2):=by
  rw [List.zipIdx_map]
  rfl
 rw [e,order_go (rowOf n many rs) (scoreN n many rs),List.map_map]
 ·rfl
 ·intro x hx y hy
  have mx:x.1∈bs:=List.fst_mem_of_mem_zipIdx hx
  have my:y.1∈bs:=List.fst_mem_of_mem_zipIdx hy
  exact stand_eq (h _ mx) (h _ my) hr
end
end Rc
end
section
namespace Rc
open RgScore
def nameSign (c:UInt8):Bool:=(decide (97≤c) && decide (c≤122)) || (decide (48≤c) && decide (c≤57))
def legal (c:UInt8):Bool:=decide (c=32) || nameSign c
def isDig (c:UInt8):Bool:=decide (48≤c) && decide (c≤57)
def numB (lo hi:Nat) (x:Bytes):Option Nat :=
 if x.length≤2∧(x≠[]∧x.all isDig=true) then
  if 1 < x.length∧x.head?=some 48 then none
  else if lo≤natIn x∧natIn x≤hi then some (natIn x) else none
 else none
def numsB:List Bytes→List (Nat×Nat)→Option (List Nat)
 | [],[]=>some []
 | x::xs,l::ls=>match numB l.1 l.2 x with
  | none=>none
  | some n=>(numsB xs ls).map fun ns=>n::ns
 | _,_=>none
def formB (w:Bytes):Option (Bool×List (Nat×Nat)) :=
 if w=ascii "boat" then some (true,[]) else if w=ascii "out" then some (false,[(1,32),(0,31)]) else if w=ascii "race" then some (false,[])
 else if w=ascii "place" then some (true,[(1,64),(1,64)]) else if w=ascii "miss" then some (true,[]) else if w=ascii "dis" then some (true,[])
 else if w=ascii "avg" then some (true,[]) else if w=ascii "pen" then some (true,[(1,99)]) else none
def restB (w:Bytes) (rest:List Bytes):Bool×List (Nat×Nat)→Option (Bytes×Bytes×List Nat)
 | (true,lims)=>match rest with
  | []=>none
  | nm::r=>if 1≤nm.length∧nm.length≤12 then (numsB r lims).map fun ns=>(w,nm,ns) else none
 | (false,lims)=>(numsB rest lims).map fun ns=>(w,[],ns)
def partsB (b:Bytes):Option (List Bytes):=if b.all legal=true then some (cutAt 32 b) else none
def readB (b:Bytes):Option (Bytes×Bytes×List Nat):=match partsB b with
 | none=>none
 | some []=>none
 | some (w::rest)=>match formB w with
  | none=>none
  | some f=>restB w rest f
def lineP:Line→Bytes×Bytes×List Nat
 | .boat n=>(ascii "boat",n,[])
 | .out r k=>(ascii "out",[],[r,k])
 | .race=>(ascii "race",[],[])
 | .place n p s=>(ascii "place",n,[p,s])
 | .miss n=>(ascii "miss",n,[])
 | .dis n=>(ascii "dis",n,[])
 | .avg n=>(ascii "avg",n,[])
 | .pen n k=>(ascii "pen",n,[k])
def partsL:Line→List Bytes
 | .boat n=>[ascii "boat",n]
 | .out r k=>[ascii "out",decimal r,decimal k]
 | .race=>[ascii "race"]
 | .place n p s=>[ascii "place",n,decimal p,decimal s]
 | .miss n=>[ascii "miss",n]
 | .dis n=>[ascii "dis",n]
 | .avg n=>[ascii "avg",n]
 | .pen n k=>[ascii "pen",n,decimal k]
theorem text_parts (l:Line):l.text=spaced (partsL l):=by cases l <;> rfl
theorem cut_one {x:UInt8}:∀ {w:Bytes},x ∉ w→cutAt x w=[w]
 | [],_=>rfl
 | c::w,h=>by
  have h1:c≠x:=fun e=>h (by rw [e]; exact List.mem_cons_self)
  have ih:=cut_one (x:=x) (w:=w) fun e=>h (List.mem_cons_of_mem _ e)
  simp only [cutAt,if_neg h1,ih]
theorem cut_more {x:UInt8} {r:Bytes}:∀ {w:Bytes},x ∉ w→cutAt x (w++x::r)=w::cutAt x r
 | [],_=>by simp [cutAt]
 | c::w,h=>by
  have h1:c≠x:=fun e=>h (by rw [e]; exact List.mem_cons_self)
  have ih:=cut_more (x:=x) (r:=r) (w:=w) fun e=>h (List.mem_cons_of_mem _ e)
  simp only [List.cons_append,cutAt,if_neg h1,ih]
theorem cut_spaced:∀ {ws:List Bytes},ws≠[]→(∀ w∈ws,(32:UInt8) ∉ w)→cutAt 32 (spaced ws)=ws
 | [],h,_=>absurd rfl h
 | [w],_,h=>by
  show cutAt 32 w=[w]
  exact cut_one (h w List.mem_cons_self)
 | w::v::r,_,h=>by
  show cutAt 32 (w++(32::spaced (v::r)))=w::v::r
  rw [cut_more (h w List.mem_cons_self),cut_spaced (by simp) fun x hx=>h x (List.mem_cons_of_mem _ hx)]
theorem cut_ne (x:UInt8):∀ b:Bytes,cutAt x b≠[]
 | []=>by simp [cutAt]
 | c::b=>by
  unfold cutAt
  split
  ·simp
  ·split <;> simp
theorem spaced_cons {w:Bytes} {r:List Bytes} (h:r≠[]):spaced (w::r)=w++(32::spaced r):=by
 cases r with
 | nil=>exact absurd rfl h
 | cons v r=>rfl
theorem spaced_push {c:UInt8} {l:Bytes} {m:List Bytes}:spaced ((c::l)::m)=c::spaced (l::m):=by
 cases m with
 | nil=>rfl
 | cons v r=>rfl
theorem spaced_cut:∀ b:Bytes,spaced (cutAt 32 b)=b
 | []=>rfl
 | c::b=>by
  have ih:=spaced_cut b
  have hn:=cut_ne 32 b
  unfold cutAt
  split
  ·rename_i e
   rw [spaced_cons hn,ih,e]
   rfl
  ·revert ih hn
   cases cutAt 32 b with
   | nil=>intro _ hn; exact absurd rfl hn
   | cons l m =>
    intro ih _
    show spaced ((c::l)::m)=c::b
    rw [spaced_push,ih]
theorem cut_mem {x:UInt8}:∀ {b w:Bytes},w∈cutAt x b→∀ c∈w,c∈b∧c≠x
 | [],w,h,c,hc=>by
  have:w=[]:=by simpa [cutAt] using h
  rw [this] at hc; cases hc
 | a::b,w,h,c,hc=>by
  unfold cutAt at h
  split at h
  ·rcases List.mem_cons.mp h with rfl | h
   ·cases hc
   ·have:=cut_mem h c hc
    exact ⟨List.mem_cons_of_mem _ this.1,this.2⟩
  ·rename_i ne
   have ih:=@cut_mem x b
   revert h ih
   have hn:=cut_ne x b
   revert hn
   cases cutAt x b with
   | nil=>intro hn; exact absurd rfl hn
   | cons l m =>
    intro _ h ih
    rcases List.mem_cons.mp h with rfl | h
    ·rcases List.mem_cons.mp hc with rfl | hc
     ·exact ⟨List.mem_cons_self,ne⟩
     ·have:=ih (w:=l) List.mem_cons_self c hc
      exact ⟨List.mem_cons_of_mem _ this.1,this.2⟩
    ·have:=ih (w:=w) (List.mem_cons_of_mem _ h) c hc
     exact ⟨List.mem_cons_of_mem _ this.1,this.2⟩
def decOk (n:Nat):Bool:=decide ((decimal n).length≤2) && decide (decimal n≠[]) && (decimal n).all isDig && !(decide (1 < (decimal n).length) && decide ((decimal n).head?=some 48)) && decide (natIn (decimal n)=n)
theorem dec_all:∀ n:Fin 100,decOk n.val=true:=by decide +kernel
theorem dec_facts {n:Nat} (h:n≤99):(decimal n).length≤2∧decimal n≠[]∧(decimal n).all isDig=true∧¬ (1 < (decimal n).length∧(decimal n).head?=some 48)∧natIn (decimal n)=n:=by
 have t:=dec_all ⟨n,by omega⟩
 simp only [decOk,Bool.and_eq_true,decide_eq_true_eq,Bool.not_eq_true',Bool.and_eq_false_iff,decide_eq_false_iff_not] at t
 obtain ⟨⟨⟨⟨h1,h2⟩,h3⟩,h4⟩,h5⟩:=t
 exact ⟨h1,h2,h3,by rcases h4 with h4 | h4; exact fun e=>h4 e.1; exact fun e=>h4 e.2,h5⟩
theorem numB_decimal {lo hi n:Nat} (h1:lo≤n) (h2:n≤hi) (h3:hi≤99):numB lo hi (decimal n)=some n:=by
 obtain ⟨a,b,c,d,e⟩:=dec_facts (n:=n) (by omega)
 unfold numB
 rw [if_pos ⟨a,b,c⟩,if_neg d,e,if_pos ⟨h1,h2⟩]
def dig (i:Fin 10):UInt8:=UInt8.ofNat (48 + i.val)
theorem dig_of {c:UInt8} (h:isDig c=true):∃ i,c=dig i:=by
 simp only [isDig,Bool.and_eq_true,decide_eq_true_eq] at h
 have h1:48≤c.toNat:=h.1
 have h2:c.toNat≤57:=h.2
 refine ⟨⟨c.toNat - 48,by omega⟩,?_⟩
 apply UInt8.toNat_inj.mp
 show c.toNat=(UInt8.ofNat (48 + (c.toNat - 48))).toNat
 rw [UInt8.toNat_ofNat']
 omega
theorem dec_one:∀ i:Fin 10,decimal (natIn [dig i])=[dig i]:=by decide +kernel
theorem dec_two:∀ i j:Fin 10,dig i≠48→decimal (natIn [dig i,dig j])=[dig i,dig j]:=by decide +kernel
theorem numB_sound {lo hi n:Nat} {x:Bytes} (h:numB lo hi x=some n):natIn x=n∧decimal n=x∧lo≤n∧n≤hi:=by
 unfold numB at h
 split at h
 ·rename_i c
  obtain ⟨c1,c2,c3⟩:=c
  split at h
  ·cases h
  ·rename_i c4
   split at h
   ·rename_i c5
    have e:natIn x=n:=Option.some.inj h
    subst e
    refine ⟨rfl,?_,c5.1,c5.2⟩
    match x,c1,c2,c3,c4 with
    | [],_,c2,_,_=>exact absurd rfl c2
    | [a],_,_,c3,_ =>
     obtain ⟨i,rfl⟩:=dig_of (c:=a) (by simpa using c3)
     exact dec_one i
    | [a,b],_,_,c3,c4 =>
     have c3':isDig a=true∧isDig b=true:=by simpa using c3
     obtain ⟨i,rfl⟩:=dig_of c3'.1
     obtain ⟨j,rfl⟩:=dig_of c3'.2
     refine dec_two i j fun e=>c4 ⟨by simp,?_⟩
     rw [e]; rfl
    | _::_::_::_,c1,_,_,_=>simp at c1
   ·cases h
 ·cases h
theorem numsB_two {x y:Bytes} {l m:Nat×Nat} {a b:Nat} (h1:numB l.1 l.2 x=some a) (h2:numB m.1 m.2 y=some b):numsB [x,y] [l,m]=some [a,b]:=by
 simp only [numsB,h1,h2,Option.map_some]
theorem numsB_one {x:Bytes} {l:Nat×Nat} {a:Nat} (h1:numB l.1 l.2 x=some a):numsB [x] [l]=some [a]:=by
 simp only [numsB,h1,Option.map_some]
theorem numsB_nil_inv {xs:List Bytes} {ns:List Nat} (h:numsB xs []=some ns):xs=[]∧ns=[]:=by
 cases xs with
 | nil=>exact ⟨rfl,(Option.some.inj h).symm⟩
 | cons x xs=>cases h
theorem numsB_cons_inv {xs:List Bytes} {l:Nat×Nat} {ls:List (Nat×Nat)} {ns:List Nat} (h:numsB xs (l::ls)=some ns):∃ x r n m,xs=x::r∧ns=n::m∧numB l.1 l.2 x=some n∧numsB r ls=some m:=by
 cases xs with
 | nil=>cases h
 | cons x xs =>
  simp only [numsB] at h
  cases e:numB l.1 l.2 x with
  | none=>rw [e] at h; cases h
  | some n =>
   rw [e] at h
   cases e2:numsB xs ls with
   | none=>rw [e2] at h; cases h
   | some m =>
    rw [e2] at h
    exact ⟨x,xs,n,m,rfl,(Option.some.inj h).symm,e,e2⟩
theorem digit_legal {c:UInt8} (h:isDig c=true):nameSign c=true:=by
 unfold nameSign
 unfold isDig at h
 rw [h,Bool.or_true]
theorem dec_signs {n:Nat} (h:n≤99):∀ c∈decimal n,nameSign c=true:=fun c hc=>digit_legal (List.all_eq_true.mp (dec_facts h).2.2.1 c hc)
theorem name_not_blank {c:UInt8} (h:nameSign c=true):c≠32:=by
 intro e
 rw [e] at h
 exact absurd h (by decide)
theorem nameOk_signs {n:Name} (h:nameOk n=true):∀ c∈n,nameSign c=true:=by
 simp only [nameOk,Bool.and_eq_true] at h
 exact List.all_eq_true.mp h.2.2
theorem nameOk_len {n:Name} (h:nameOk n=true):1≤n.length∧n.length≤12:=by
 simp only [nameOk,Bool.and_eq_true,decide_eq_true_eq] at h
 exact ⟨h.1,h.2.1⟩
theorem nameOk_of {n:Name} (h:1≤n.length∧n.length≤12) (h2:∀ c∈n,nameSign c=true):nameOk n=true:=by
 simp only [nameOk,Bool.and_eq_true,decide_eq_true_eq]
 exact ⟨h.1,h.2,List.all_eq_true.mpr h2⟩
theorem word_signs:∀ w∈[ascii "boat",ascii "out",ascii "race",ascii "place",ascii "miss",ascii "dis",ascii "avg",ascii "pen"],∀ c∈w,nameSign c=true:=by decide +kernel
theorem within_iff {lo hi n:Nat}:within lo hi n=true↔lo≤n∧n≤hi:=by
 unfold within
 rw [Bool.and_eq_true,decide_eq_true_eq,decide_eq_true_eq]
theorem parts_signs {l:Line} (h:l.ok=true):∀ w∈partsL l,∀ c∈w,nameSign c=true:=by
 have W:∀ {s:Bytes},s∈[ascii "boat",ascii "out",ascii "race",ascii "place",ascii "miss",ascii "dis",ascii "avg",ascii "pen"]→∀ c∈s,nameSign c=true:=fun hs=>word_signs _ hs
 intro w hw
 cases l with
 | boat n =>
  rcases List.mem_cons.mp hw with rfl | hw
  ·exact W (by simp)
  ·rw [List.mem_singleton.mp hw]; exact nameOk_signs h
 | out r k =>
  simp only [Line.ok,Bool.and_eq_true,within_iff,decide_eq_true_eq] at h
  rcases List.mem_cons.mp hw with rfl | hw
  ·exact W (by simp)
  ·rcases List.mem_cons.mp hw with rfl | hw
   ·exact dec_signs (by omega)
   ·rw [List.mem_singleton.mp hw]; exact dec_signs (by omega)
 | race=>rw [List.mem_singleton.mp hw]; exact W (by simp)
 | place n p s =>
  simp only [Line.ok,Bool.and_eq_true,within_iff] at h
  rcases List.mem_cons.mp hw with rfl | hw
  ·exact W (by simp)
  ·rcases List.mem_cons.mp hw with rfl | hw
   ·exact nameOk_signs h.1
   ·rcases List.mem_cons.mp hw with rfl | hw
    ·exact dec_signs (by omega)
    ·rw [List.mem_singleton.mp hw]; exact dec_signs (by omega)
 | miss n =>
  rcases List.mem_cons.mp hw with rfl | hw
  ·exact W (by simp)
  ·rw [List.mem_singleton.mp hw]; exact nameOk_signs h
 | dis n =>
  rcases List.mem_cons.mp hw with rfl | hw
  ·exact W (by simp)
  ·rw [List.mem_singleton.mp hw]; exact nameOk_signs h
 | avg n =>
  rcases List.mem_cons.mp hw with rfl | hw
  ·exact W (by simp)
  ·rw [List.mem_singleton.mp hw]; exact nameOk_signs h
 | pen n k =>
  simp only [Line.ok,Bool.and_eq_true,within_iff] at h
  rcases List.mem_cons.mp hw with rfl | hw
  ·exact W (by simp)
  ·rcases List.mem_cons.mp hw with rfl | hw
   ·exact nameOk_signs h.1
   ·rw [List.mem_singleton.mp hw]; exact dec_signs (by omega)
theorem spaced_legal:∀ {ws:List Bytes},(∀ w∈ws,∀ c∈w,nameSign c=true)→(spaced ws).all legal=true
 | [],_=>rfl
 | [w],h=>by
  show w.all legal=true
  refine List.all_eq_true.mpr fun c hc=>?_
  unfold legal
  rw [h w List.mem_cons_self c hc,Bool.or_true]
 | w::v::r,h=>by
  show (w++(32::spaced (v::r))).all legal=true
  rw [List.all_append,List.all_cons,spaced_legal fun x hx=>h x (List.mem_cons_of_mem _ hx),Bool.and_eq_true,Bool.and_eq_true]
  refine ⟨List.all_eq_true.mpr fun c hc=>?_,by decide,rfl⟩
  unfold legal
  rw [h w List.mem_cons_self c hc,Bool.or_true]
theorem partsL_ne (l:Line):partsL l≠[]:=by cases l <;> simp [partsL]
theorem readB_text {l:Line} (h:l.ok=true):readB l.text=some (lineP l):=by
 have hs:=parts_signs h
 unfold readB partsB
 rw [text_parts,if_pos (spaced_legal hs),cut_spaced (partsL_ne l) fun w hw e=>name_not_blank (hs w hw 32 e) rfl]
 cases l with
 | boat n=>simp only [partsL]; show restB (ascii "boat") [n] (true,[])=_; simp only [restB,if_pos (nameOk_len h)]; rfl
 | out r k =>
  simp only [Line.ok,Bool.and_eq_true,within_iff,decide_eq_true_eq] at h
  simp only [partsL]; show restB (ascii "out") [decimal r,decimal k] (false,[(1,32),(0,31)])=_
  simp only [restB]
  rw [numsB_two (numB_decimal h.1.1 h.1.2 (by decide)) (numB_decimal (Nat.zero_le _) h.2 (by decide))]; rfl
 | race=>rfl
 | place n p s =>
  simp only [Line.ok,Bool.and_eq_true,within_iff] at h
  simp only [partsL]; show restB (ascii "place") [n,decimal p,decimal s] (true,[(1,64),(1,64)])=_
  simp only [restB,if_pos (nameOk_len h.1)]
  rw [numsB_two (numB_decimal h.2.1.1 h.2.1.2 (by decide)) (numB_decimal h.2.2.1 h.2.2.2 (by decide))]; rfl
 | miss n=>simp only [partsL]; show restB (ascii "miss") [n] (true,[])=_; simp only [restB,if_pos (nameOk_len h)]; rfl
 | dis n=>simp only [partsL]; show restB (ascii "dis") [n] (true,[])=_; simp only [restB,if_pos (nameOk_len h)]; rfl
 | avg n=>simp only [partsL]; show restB (ascii "avg") [n] (true,[])=_; simp only [restB,if_pos (nameOk_len h)]; rfl
 | pen n k =>
  simp only [Line.ok,Bool.and_eq_true,within_iff] at h
  simp only [partsL]; show restB (ascii "pen") [n,decimal k] (true,[(1,99)])=_
  simp only [restB,if_pos (nameOk_len h.1)]
  rw [numsB_one (numB_decimal h.2.1 h.2.2 (by decide))]; rfl
theorem lineIn_of {b:Bytes} {l:Line} (h1:lineMaybe b=some l) (h2:l.ok=true) (h3:l.text=b):lineIn b=some l:=by
 unfold lineIn
 rw [h1]
 show (if (l.ok && l.text==b)=true then some l else none)=some l
 rw [if_pos (by rw [h2,h3]; simp)]
theorem lineIn_some {b:Bytes} {l:Line} (h:lineIn b=some l):l.ok=true∧l.text=b:=by
 unfold lineIn at h
 cases e:lineMaybe b with
 | none=>rw [e] at h; cases h
 | some x =>
  rw [e] at h
  have h':(if (x.ok && x.text==b)=true then some x else none)=some l:=h
  split at h'
  ·rename_i c
   have ex:x=l:=Option.some.inj h'
   subst ex
   rw [Bool.and_eq_true] at c
   exact ⟨c.1,eq_of_beq c.2⟩
  ·cases h'
theorem readB_sound {b:Bytes} {t:Bytes×Bytes×List Nat} (h:readB b=some t):∃ l,lineIn b=some l∧lineP l=t:=by
 unfold readB partsB at h
 by_cases hl:b.all legal=true
 ·rw [if_pos hl] at h
  cases ec:cutAt 32 b with
  | nil=>exact absurd ec (cut_ne _ _)
  | cons w rest =>
   rw [ec] at h
   have hb:spaced (w::rest)=b:=by rw [←ec]; exact spaced_cut b
   have sg:∀ v∈w::rest,∀ c∈v,nameSign c=true:=fun v hv c hc=>by
    rw [←ec] at hv
    obtain ⟨m1,m2⟩:=cut_mem hv c hc
    have:=List.all_eq_true.mp hl c m1
    unfold legal at this
    rw [decide_eq_false m2,Bool.false_or] at this
    exact this
   have lm:lineMaybe b=(let a (k:Nat):Bytes:=rest.getD k []
     let n (k:Nat):Nat:=natIn (a k)
     if w=ascii "boat" then some (.boat (a 0)) else if w=ascii "out" then some (.out (n 0) (n 1)) else if w=ascii "race" then some .race else if w=ascii "place" then some (.place (a 0) (n 1) (n 2)) else if w=ascii "miss" then some (.miss (a 0)) else if w=ascii "dis" then some (.dis (a 0)) else if w=ascii "avg" then some (.avg (a 0)) else if w=ascii "pen" then some (.pen (a 0) (n 1)) else none):=by
    unfold lineMaybe
    rw [ec]
   dsimp only at h lm
   have named:∀ {lims:List (Nat×Nat)},restB w rest (true,lims)=some t→∃ nm r ns,rest=nm::r∧nameOk nm=true∧numsB r lims=some ns∧t=(w,nm,ns):=by
    intro lims hr
    cases rest with
    | nil=>cases hr
    | cons nm r =>
     simp only [restB] at hr
     split at hr
     ·rename_i c
      cases en:numsB r lims with
      | none=>rw [en] at hr; cases hr
      | some ns =>
       rw [en] at hr
       exact ⟨nm,r,ns,rfl,nameOk_of c (sg nm (by simp)),en,(Option.some.inj hr).symm⟩
     ·cases hr
   have plain:∀ {lims:List (Nat×Nat)},restB w rest (false,lims)=some t→∃ ns,numsB rest lims=some ns∧t=(w,[],ns):=by
    intro lims hr
    simp only [restB] at hr
    cases en:numsB rest lims with
    | none=>rw [en] at hr; cases hr
    | some ns=>rw [en] at hr; exact ⟨ns,rfl,(Option.some.inj hr).symm⟩
   by_cases w1:w=ascii "boat"
   ·subst w1
    have h:restB (ascii "boat") rest (true,[])=some t:=h
    obtain ⟨nm,r,ns,rfl,hn,hs,rfl⟩:=named h
    obtain ⟨rfl,rfl⟩:=numsB_nil_inv hs
    exact ⟨.boat nm,lineIn_of (by rw [lm]; rfl) hn hb,rfl⟩
   ·rw [if_neg w1] at lm
    by_cases w2:w=ascii "out"
    ·subst w2
     have h:restB (ascii "out") rest (false,[(1,32),(0,31)])=some t:=h
     obtain ⟨ns,hs,rfl⟩:=plain h
     obtain ⟨x,r,n,m,rfl,rfl,q1,hs⟩:=numsB_cons_inv hs
     obtain ⟨y,r2,n2,m2,rfl,rfl,q2,hs⟩:=numsB_cons_inv hs
     obtain ⟨rfl,rfl⟩:=numsB_nil_inv hs
     obtain ⟨a1,a2,a3,a4⟩:=numB_sound q1
     obtain ⟨b1,b2,b3,b4⟩:=numB_sound q2
     refine ⟨.out n n2,lineIn_of (by rw [lm,if_pos rfl]; show some (Line.out (natIn x) (natIn y))=_; rw [a1,b1]) ?_ ?_,rfl⟩
     ·simp only [Line.ok,Bool.and_eq_true,within_iff,decide_eq_true_eq]; exact ⟨⟨a3,a4⟩,b4⟩
     ·show spaced [ascii "out",decimal n,decimal n2]=b
      rw [a2,b2]; exact hb
    ·rw [if_neg w2] at lm
     by_cases w3:w=ascii "race"
     ·subst w3
      have h:restB (ascii "race") rest (false,[])=some t:=h
      obtain ⟨ns,hs,rfl⟩:=plain h
      obtain ⟨rfl,rfl⟩:=numsB_nil_inv hs
      exact ⟨.race,lineIn_of (by rw [lm,if_pos rfl]) rfl hb,rfl⟩
     ·rw [if_neg w3] at lm
      by_cases w4:w=ascii "place"
      ·subst w4
       have h:restB (ascii "place") rest (true,[(1,64),(1,64)])=some t:=h
       obtain ⟨nm,r,ns,rfl,hn,hs,rfl⟩:=named h
       obtain ⟨x,r,n,m,rfl,rfl,q1,hs⟩:=numsB_cons_inv hs
       obtain ⟨y,r2,n2,m2,rfl,rfl,q2,hs⟩:=numsB_cons_inv hs
       obtain ⟨rfl,rfl⟩:=numsB_nil_inv hs
       obtain ⟨a1,a2,a3,a4⟩:=numB_sound q1
       obtain ⟨b1,b2,b3,b4⟩:=numB_sound q2
       refine ⟨.place nm n n2,lineIn_of (by rw [lm,if_pos rfl]; show some (Line.place nm (natIn x) (natIn y))=_; rw [a1,b1]) ?_ ?_,rfl⟩
       ·simp only [Line.ok,Bool.and_eq_true,within_iff]; exact ⟨hn,⟨a3,a4⟩,⟨b3,b4⟩⟩
       ·show spaced [ascii "place",nm,decimal n,decimal n2]=b
        rw [a2,b2]; exact hb
      ·rw [if_neg w4] at lm
       by_cases w5:w=ascii "miss"
       ·subst w5
        have h:restB (ascii "miss") rest (true,[])=some t:=h
        obtain ⟨nm,r,ns,rfl,hn,hs,rfl⟩:=named h
        obtain ⟨rfl,rfl⟩:=numsB_nil_inv hs
        exact ⟨.miss nm,lineIn_of (by rw [lm,if_pos rfl]; rfl) hn hb,rfl⟩
       ·rw [if_neg w5] at lm
        by_cases w6:w=ascii "dis"
        ·subst w6
         have h:restB (ascii "dis") rest (true,[])=some t:=h
         obtain ⟨nm,r,ns,rfl,hn,hs,rfl⟩:=named h
         obtain ⟨rfl,rfl⟩:=numsB_nil_inv hs
         exact ⟨.dis nm,lineIn_of (by rw [lm,if_pos rfl]; rfl) hn hb,rfl⟩
        ·rw [if_neg w6] at lm
         by_cases w7:w=ascii "avg"
         ·subst w7
          have h:restB (ascii "avg") rest (true,[])=some t:=h
          obtain ⟨nm,r,ns,rfl,hn,hs,rfl⟩:=named h
          obtain ⟨rfl,rfl⟩:=numsB_nil_inv hs
          exact ⟨.avg nm,lineIn_of (by rw [lm,if_pos rfl]; rfl) hn hb,rfl⟩
         ·rw [if_neg w7] at lm
          by_cases w8:w=ascii "pen"
          ·subst w8
           have h:restB (ascii "pen") rest (true,[(1,99)])=some t:=h
           obtain ⟨nm,r,ns,rfl,hn,hs,rfl⟩:=named h
           obtain ⟨x,r,n,m,rfl,rfl,q1,hs⟩:=numsB_cons_inv hs
           obtain ⟨rfl,rfl⟩:=numsB_nil_inv hs
           obtain ⟨a1,a2,a3,a4⟩:=numB_sound q1
           refine ⟨.pen nm n,lineIn_of (by rw [lm,if_pos rfl]; show some (Line.pen nm (natIn x))=_; rw [a1]) ?_ ?_,rfl⟩
           ·simp only [Line.ok,Bool.and_eq_true,within_iff]; exact ⟨hn,a3,a4⟩
           ·show spaced [ascii "pen",nm,decimal n]=b
            rw [a2]; exact hb
          ·have:formB w=none:=by
            unfold formB
            rw [if_neg w1,if_neg w2,if_neg w3,if_neg w4,if_neg w5,if_neg w6,if_neg w7,if_neg w8]
           rw [this] at h
           cases h
 ·rw [if_neg hl] at h
  cases h
theorem readB_eq (b:Bytes):readB b=(lineIn b).map lineP:=by
 cases e:lineIn b with
 | some l =>
  obtain ⟨h1,h2⟩:=lineIn_some e
  rw [←h2,readB_text h1]
  rfl
 | none =>
  cases e2:readB b with
  | none=>rfl
  | some t =>
   obtain ⟨l,h1,_⟩:=readB_sound e2
   rw [e] at h1
   cases h1
end Rc
end
section
namespace Rc
open RgScore
inductive Good:Series→Prop
 | nil:Good []
 | snoc {c:Series} {l:Line}:Good c→l.ok=true→wrongOf c l=0→Good (c++[l])
theorem wrong_zero {c:Series} {l:Line} (h:wrongOf c l=0):stands c l=true∧clashes c l=false∧tooMany c l=false:=by
 unfold wrongOf at h
 split at h
 ·cases h
 ·rename_i h1
  split at h
  ·cases h
  ·rename_i h2
   split at h
   ·cases h
   ·rename_i h3
    exact ⟨by simpa using h1,by simpa using h2,by simpa using h3⟩
def runB:Series→Bytes→Bytes→Except (Nat×Nat) Series
 | c,row,[]=>if row=[] then .ok c else .error (c.length,1)
 | c,row,x::r=>if x=10 then match lineIn row with
   | none=>.error (c.length,1)
   | some l=>if wrongOf c l=0 then runB (c++[l]) [] r else .error (c.length,wrongOf c l)
  else runB c (row++[x]) r
theorem split_row:∀ {row:Bytes} (r:Bytes),(10:UInt8) ∉ row→splitLines (row++10::r)=row::splitLines r
 | [],r,_=>by simp [splitLines]
 | c::row,r,h=>by
  have h1:c≠10:=fun e=>h (by rw [e]; exact List.mem_cons_self)
  have ih:=split_row (row:=row) r fun e=>h (List.mem_cons_of_mem _ e)
  rw [List.cons_append,splitLines,if_neg h1,ih]
theorem split_bare:∀ {row:Bytes},(10:UInt8) ∉ row→row≠[]→splitLines row=[row]
 | [],_,h=>absurd rfl h
 | [c],h,_=>by
  have h1:c≠10:=fun e=>h (by rw [e]; exact List.mem_cons_self)
  unfold splitLines
  rw [if_neg h1]
  rfl
 | c::d::row,h,_=>by
  have h1:c≠10:=fun e=>h (by rw [e]; exact List.mem_cons_self)
  have ih:=split_bare (row:=d::row) (fun e=>h (List.mem_cons_of_mem _ e)) (by simp)
  rw [splitLines,if_neg h1,ih]
theorem split_nil {r:Bytes}:(splitLines r).isEmpty=r.isEmpty:=by
 cases r with
 | nil=>rfl
 | cons c r =>
  unfold splitLines
  split
  ·rfl
  ·split <;> rfl
theorem last_ne {row:Bytes} (h:(10:UInt8) ∉ row):(row.getLast? != some 10)=true:=by
 have:row.getLast?≠some 10:=fun e=>h (List.mem_of_getLast? e)
 simpa using this
theorem from_bare {b b':Bool} {c:Series}:∀ {ls:List Bytes},(ls≠[]→b=b')→seriesFrom b c ls=seriesFrom b' c ls
 | [],_=>rfl
 | _::_,h=>by rw [h (by simp)]
theorem run_split:∀ (t:Bytes) (c:Series) (row:Bytes),(10:UInt8) ∉ row→runB c row t=seriesFrom ((row++t).getLast? != some 10) c (splitLines (row++t))
 | [],c,row,h=>by
  rw [List.append_nil]
  unfold runB
  by_cases hr:row=[]
  ·rw [if_pos hr,hr]; rfl
  ·rw [if_neg hr,split_bare h hr,last_ne h]
   simp [seriesFrom]
 | x::t,c,row,h=>by
  unfold runB
  by_cases hx:x=10
  ·subst hx
   rw [if_pos rfl,split_row t h]
   have hb:((row++10::t).getLast? != some 10 && (splitLines t).isEmpty)=false:=by
    rw [split_nil]
    cases t with
    | nil=>simp
    | cons a t=>simp
   unfold seriesFrom
   rw [hb]
   simp only [Bool.false_eq_true,if_false]
   cases lineIn row with
   | none=>rfl
   | some l =>
    dsimp only
    split
    ·rw [run_split t (c++[l]) [] (by simp),List.nil_append]
     refine from_bare fun hn=>?_
     have ht:t≠[]:=fun e=>hn (by rw [e]; rfl)
     cases t with
     | nil=>exact absurd rfl ht
     | cons a t =>
      obtain ⟨z,hz⟩:∃ z,(10::a::t:Bytes).getLast?=some z:=⟨_,List.getLast?_eq_some_getLast (by simp)⟩
      have hz2:(a::t:Bytes).getLast?=some z:=by rw [←hz,List.getLast?_cons_cons]
      rw [List.getLast?_append,hz,hz2]
      rfl
    ·rfl
  ·rw [if_neg hx,run_split t c (row++[x]) (by simp [h,Ne.symm hx]),List.append_assoc]
   rfl
theorem read_run (t:Bytes):readSeries t=runB [] [] t:=by
 rw [run_split t [] [] (by simp)]
 rfl
theorem text_no_feed {l:Line} (h:l.ok=true):(10:UInt8) ∉ l.text:=by
 intro hm
 have hl:l.text.all legal=true:=by rw [text_parts]; exact spaced_legal (parts_signs h)
 exact absurd (List.all_eq_true.mp hl 10 hm) (by decide)
theorem run_row:∀ (w:Bytes) (c:Series) (row t:Bytes),(10:UInt8) ∉ w→runB c row (w++t)=runB c (row++w) t
 | [],c,row,t,_=>by rw [List.append_nil]; rfl
 | x::w,c,row,t,h=>by
  have h1:x≠10:=fun e=>h (by rw [e]; exact List.mem_cons_self)
  rw [List.cons_append,runB,if_neg h1,run_row w c (row++[x]) t fun e=>h (List.mem_cons_of_mem _ e),List.append_assoc]
  rfl
theorem lineIn_text {l:Line} (h:l.ok=true):lineIn l.text=some l:=by
 have:=readB_text h
 obtain ⟨m,h1,h2⟩:=readB_sound this
 obtain ⟨h3,h4⟩:=lineIn_some h1
 have hp:lineP m=lineP l→m=l:=by
  intro e
  cases m <;> cases l <;> first
   | (simp only [lineP,Prod.mk.injEq] at e; exact absurd e.1 (by decide))
   | (simp only [lineP,Prod.mk.injEq,List.cons.injEq,true_and,and_true] at e; simp [e]; done)
   | rfl
 rw [h1,hp h2]
theorem text_snoc (c:Series) (l:Line):seriesText (c++[l])=seriesText c++(l.text++[10]):=by
 unfold seriesText
 rw [List.flatMap_append]
 simp
theorem run_good {c:Series} (g:Good c):∀ t:Bytes,runB [] [] (seriesText c++t)=runB c [] t:=by
 induction g with
 | nil=>intro t; rfl
 | @snoc c l g ok w ih =>
  intro t
  rw [text_snoc,List.append_assoc,List.append_assoc,ih,run_row l.text c [] _ (text_no_feed ok),List.nil_append]
  show runB c l.text (10::t)=_
  rw [runB,if_pos rfl,lineIn_text ok]
  dsimp only
  rw [if_pos w]
theorem more_run {c:Series} (g:Good c) (t:Bytes):readSeries (seriesText c++t)=runB c [] t:=by rw [read_run,run_good g]
theorem run_ok:∀ (t:Bytes) {c d:Series} {row:Bytes},Good c→runB c row t=.ok d→Good d∧seriesText d=seriesText c++(row++t)
 | [],c,d,row,g,h=>by
  unfold runB at h
  split at h
  ·rename_i hr
   cases h
   rw [hr]
   exact ⟨g,by simp⟩
  ·cases h
 | x::t,c,d,row,g,h=>by
  unfold runB at h
  split at h
  ·rename_i hx
   cases e:lineIn row with
   | none=>rw [e] at h; cases h
   | some l =>
    rw [e] at h
    dsimp only at h
    obtain ⟨h1,h2⟩:=lineIn_some e
    split at h
    ·rename_i w
     obtain ⟨g',e'⟩:=run_ok t (Good.snoc g h1 w) h
     refine ⟨g',?_⟩
     rw [e',text_snoc,h2,hx]
     simp
    ·cases h
  ·obtain ⟨g',e'⟩:=run_ok t g h
   refine ⟨g',?_⟩
   rw [e']
   simp
theorem boats_snoc (c:Series) (l:Line):boats (c++[l])=boats c++(match l with | .boat n=>[n] | _=>[]):=by
 unfold boats
 rw [List.filterMap_append]
 cases l <;> rfl
theorem outs_snoc (c:Series) (l:Line):outs (c++[l])=outs c++(match l with | .out r k=>[(r,k)] | _=>[]):=by
 unfold outs
 rw [List.filterMap_append]
 cases l <;> rfl
def addLast (l:Line):List (List Line)→List (List Line)
 | []=>[]
 | [ls]=>[ls++[l]]
 | ls::m::r=>ls::addLast l (m::r)
theorem races_cons (x:Line) (c:Series):races (x::c)=if x=.race then (c.takeWhile fun l=>l != .race)::races c else races c:=by
 cases x <;> rfl
theorem races_nil_iff:∀ c:Series,races c=[]↔Line.race ∉ c
 | []=>by simp [races]
 | x::c=>by
  rw [races_cons]
  by_cases h:x=.race
  ·rw [if_pos h,h]; simp
  ·rw [if_neg h,races_nil_iff c]
   constructor
   ·intro h1 h2
    rcases List.mem_cons.mp h2 with e | h2
    ·exact h e.symm
    ·exact h1 h2
   ·intro h1 h2
    exact h1 (List.mem_cons_of_mem _ h2)
theorem take_all:∀ {c:Series},Line.race ∉ c→(c.takeWhile fun l=>l != .race)=c
 | [],_=>rfl
 | x::c,h=>by
  have h1:x≠.race:=fun e=>h (by rw [e]; exact List.mem_cons_self)
  rw [List.takeWhile_cons,if_pos (by simpa using h1),take_all fun e=>h (List.mem_cons_of_mem _ e)]
theorem take_part:∀ {c:Series} (d:Series),Line.race∈c→((c++d).takeWhile fun l=>l != .race)=c.takeWhile fun l=>l != .race
 | [],_,h=>by cases h
 | x::c,d,h=>by
  rw [List.cons_append,List.takeWhile_cons,List.takeWhile_cons]
  by_cases hx:x=.race
  ·rw [if_neg (by rw [hx]; simp),if_neg (by rw [hx]; simp)]
  ·rw [if_pos (by simpa using hx),if_pos (by simpa using hx)]
   rw [take_part d (by rcases List.mem_cons.mp h with e | h; exact absurd e.symm hx; exact h)]
theorem races_race:∀ c:Series,races (c++[.race])=races c++[[]]
 | []=>rfl
 | x::c=>by
  rw [List.cons_append,races_cons,races_cons]
  by_cases hx:x=.race
  ·rw [if_pos hx,if_pos hx,races_race c,List.cons_append]
   congr 1
   by_cases hc:Line.race∈c
   ·exact take_part _ hc
   ·rw [take_all hc]
    rw [List.takeWhile_append_of_pos (fun l hl=>by simp; intro e; exact hc (e ▸ hl))]
    simp
  ·rw [if_neg hx,if_neg hx,races_race c]
theorem races_line {l:Line} (hl:l≠.race):∀ c:Series,races (c++[l])=addLast l (races c)
 | []=>by rw [List.nil_append,races_cons,if_neg hl]; rfl
 | x::c=>by
  rw [List.cons_append,races_cons,races_cons,races_line hl c]
  by_cases hx:x=.race
  ·rw [if_pos hx,if_pos hx]
   by_cases hc:Line.race∈c
   ·rw [take_part _ hc]
    have hn:races c≠[]:=fun e=>(races_nil_iff c).mp e hc
    cases e:races c with
    | nil=>exact absurd e hn
    | cons a r=>rfl
   ·rw [(races_nil_iff c).mpr hc,take_all hc]
    rw [List.takeWhile_append_of_pos (fun m hm=>by simp; intro e; exact hc (e ▸ hm))]
    rw [List.takeWhile_cons,if_pos (by simpa using hl)]
    rfl
  ·rw [if_neg hx,if_neg hx]
theorem addLast_append (l:Line) (ls:List Line):∀ r:List (List Line),addLast l (r++[ls])=r++[ls++[l]]
 | []=>rfl
 | [a]=>rfl
 | a::b::r=>by
  show a::addLast l ((b::r)++[ls])=_
  rw [addLast_append l ls (b::r)]
  rfl
theorem addLast_length (l:Line):∀ r:List (List Line),(addLast l r).length=r.length
 | []=>rfl
 | [a]=>rfl
 | a::b::r=>by
  show (addLast l (b::r)).length + 1=_
  rw [addLast_length l (b::r)]
  rfl
theorem begun_iff (c:Series):begun c=!(races c).isEmpty:=by
 unfold begun
 cases h:races c with
 | nil =>
  have:=(races_nil_iff c).mp h
  simpa using this
 | cons a r =>
  have:Line.race∈c:=Classical.byContradiction fun e=>by rw [(races_nil_iff c).mpr e] at h; cases h
  simpa using this
theorem this_last {c:Series} {r:List (List Line)} {ls:List Line} (h:races c=r++[ls]):thisRace c=ls:=by
 unfold thisRace
 rw [h,List.getLast?_append]
 rfl
theorem races_split {c:Series} (h:races c≠[]):∃ r ls,races c=r++[ls]:=⟨_,_,(List.dropLast_concat_getLast h).symm⟩
def ownLine (n:Name):Line→Bool
 | .place m _ _=>m==n
 | .miss m=>m==n
 | .dis m=>m==n
 | .avg m=>m==n
 | _=>false
theorem ownOf_eq (ls:List Line) (n:Name):ownOf ls n=ls.find? (ownLine n):=by
 unfold ownOf
 congr 1
theorem ownOf_snoc (ls:List Line) (l:Line) (n:Name):ownOf (ls++[l]) n=(ownOf ls n).or (if ownLine n l=true then some l else none):=by
 rw [ownOf_eq,ownOf_eq,List.find?_append,List.find?_cons]
 cases ownLine n l <;> simp
theorem penOf_snoc (ls:List Line) (l:Line) (n:Name):penOf (ls++[l]) n=(penOf ls n).or (match l with | .pen m k=>if m=n then some k else none | _=>none):=by
 unfold penOf
 rw [List.findSome?_append]
 cases l <;> simp [List.findSome?_cons]
 split <;> simp_all
def inRace:Line→Bool
 | .boat _=>false
 | .out _ _=>false
 | .race=>false
 | _=>true
def nameOf:Line→Name
 | .boat n=>n
 | .place n _ _=>n
 | .miss n=>n
 | .dis n=>n
 | .avg n=>n
 | .pen n _=>n
 | _=>[]
structure Facts (c:Series):Prop where
 nb:(boats c).length≤64
 no:(outs c).length≤32
 nr:(races c).length≤32
 nd:(boats c).Nodup
 rank1:races c=[]→∀ l∈c,l.rank≤1
 rank0:races c=[]→outs c=[]→∀ l∈c,l.rank=0
 some:(races c≠[]∨outs c≠[])→boats c≠[]
 place:∀ ls∈races c,∀ l∈ls,∀ m p s,l=.place m p s→1≤p∧1≤s∧p + s - 1≤(boats c).length
 outk:∀ o∈outs c,o.1≤32∧o.2≤31
 pens:∀ ls∈races c,∀ l∈ls,∀ m k,l=.pen m k→k≤99
 nums:∀ ls∈races c,∀ l∈ls,∀ m p s,l=.place m p s→p≤64∧s≤64
theorem tooMany_false {c:Series} {l:Line} (h:tooMany c l=false):(boats (c++[l])).length≤64∧(races (c++[l])).length≤32∧(outs (c++[l])).length≤32:=by
 unfold tooMany at h
 simp only [Bool.or_eq_false_iff,decide_eq_false_iff_not,Nat.not_lt] at h
 exact ⟨h.1,h.2.1,h.2.2⟩
theorem mem_addLast {l:Line} {ls:List Line}:∀ {rs:List (List Line)},ls∈addLast l rs→∀ x∈ls,x=l∨∃ m∈rs,x∈m
 | [],h,_,_=>by cases h
 | [a],h,x,hx=>by
  rw [List.mem_singleton.mp h] at hx
  rcases List.mem_append.mp hx with hx | hx
  ·exact .inr ⟨a,List.mem_cons_self,hx⟩
  ·exact .inl (List.mem_singleton.mp hx)
 | a::b::r,h,x,hx=>by
  rcases List.mem_cons.mp (show ls∈a::addLast l (b::r) from h) with e | h
  ·exact .inr ⟨a,List.mem_cons_self,e ▸ hx⟩
  ·rcases mem_addLast h x hx with e | ⟨m,hm,hx⟩
   ·exact .inl e
   ·exact .inr ⟨m,List.mem_cons_of_mem _ hm,hx⟩
theorem Good.facts {c:Series} (g:Good c):Facts c:=by
 induction g with
 | nil=>exact ⟨by decide,by decide,by decide,List.nodup_nil,fun _ l h=>(by cases h),fun _ _ l h=>(by cases h),fun h=>(by rcases h with h | h <;> exact absurd rfl h),fun ls h=>(by cases h),fun o h=>(by cases h),fun ls h=>(by cases h),fun ls h=>(by cases h)⟩
 | @snoc c l g ok w F =>
  obtain ⟨w1,w2,w3⟩:=wrong_zero w
  obtain ⟨t1,t2,t3⟩:=tooMany_false w3
  have old:∀ {ls:List Line},l≠.race→ls∈races (c++[l])→∀ x∈ls,x=l∨∃ m∈races c,x∈m:=fun {ls} hl h=>by
   rw [races_line hl] at h
   exact mem_addLast h
  have allRank:∀ {k:Nat},l.rank≤k→(∀ m∈c,m.rank≤k)→∀ m∈c++[l],m.rank≤k:=fun h1 h2 m hm=>by
   rcases List.mem_append.mp hm with hm | hm
   ·exact h2 m hm
   ·rw [List.mem_singleton.mp hm]; exact h1
  have rest:inRace l=true→begun c=true→Facts (c++[l]):=by
   intro hi hb
   have hl:l≠.race:=by intro e; rw [e] at hi; cases hi
   have eb:boats (c++[l])=boats c:=by rw [boats_snoc]; cases l <;> first | (simp; done) | exact absurd hi Bool.false_ne_true
   have eo:outs (c++[l])=outs c:=by rw [outs_snoc]; cases l <;> first | (simp; done) | exact absurd hi Bool.false_ne_true
   have hr:races c≠[]:=by
    rw [begun_iff] at hb
    intro e; rw [e] at hb; cases hb
   have hr2:races (c++[l])≠[]:=by
    rw [races_line hl]
    intro e
    have:=addLast_length l (races c)
    rw [e] at this
    exact hr (List.length_eq_zero_iff.mp this.symm)
   refine ⟨t1,t3,t2,by rw [eb]; exact F.nd,fun h=>absurd h hr2,fun h=>absurd h hr2,fun _=>by rw [eb]; exact F.some (.inl hr),?_,by rw [eo]; exact F.outk,?_,?_⟩
   ·intro ls hls x hx m p s e
    rw [eb]
    rcases old hl hls x hx with e2 | ⟨ms,hm,hx⟩
    ·have e3:l=.place m p s:=e2.symm.trans e
     subst e3
     simp only [clashes,Bool.or_eq_false_iff,decide_eq_false_iff_not] at w2
     simp only [Line.ok,Bool.and_eq_true,within_iff] at ok
     omega
    ·exact F.place ms hm x hx m p s e
   ·intro ls hls x hx m k e
    rcases old hl hls x hx with e2 | ⟨ms,hm,hx⟩
    ·have e3:l=.pen m k:=e2.symm.trans e
     subst e3
     simp only [Line.ok,Bool.and_eq_true,within_iff] at ok
     omega
    ·exact F.pens ms hm x hx m k e
   ·intro ls hls x hx m p s e
    rcases old hl hls x hx with e2 | ⟨ms,hm,hx⟩
    ·have e3:l=.place m p s:=e2.symm.trans e
     subst e3
     simp only [Line.ok,Bool.and_eq_true,within_iff] at ok
     omega
    ·exact F.nums ms hm x hx m p s e
  cases l with
  | boat n =>
   have a0:∀ m∈c,m.rank=0:=fun m hm=>by
    have:=List.all_eq_true.mp (show (c.all fun l=>l.rank==0)=true from w1) m hm
    simpa using this
   have nr:races c=[]:=(races_nil_iff c).mpr fun h=>by have:=a0 _ h; cases this
   have nr2:races (c++[.boat n])=[]:=by rw [races_line (by intro e; cases e),nr]; rfl
   have no:outs c=[]:=by
    refine List.filterMap_eq_nil_iff.mpr fun m hm=>?_
    have:=a0 m hm
    cases m <;> first | rfl | (cases this)
   have no2:outs (c++[.boat n])=[]:=by rw [outs_snoc,no]; rfl
   have w2':(boats c).contains n=false:=w2
   refine ⟨t1,t3,t2,?_,fun _=>allRank (Nat.zero_le _) fun m hm=>by rw [a0 m hm]; decide,fun _ _ m hm=>Nat.le_zero.mp (allRank (k:=0) (Nat.le_refl _) (fun m hm=>Nat.le_of_eq (a0 m hm)) m hm),fun h=>(by rcases h with h | h; exact absurd nr2 h; exact absurd no2 h),fun ls h=>(by rw [nr2] at h; cases h),fun o h=>(by rw [no2] at h; cases h),fun ls h=>(by rw [nr2] at h; cases h),fun ls h=>(by rw [nr2] at h; cases h)⟩
   rw [boats_snoc]
   refine List.nodup_append.mpr ⟨F.nd,by simp,fun a ha b hb e=>?_⟩
   rw [List.mem_singleton.mp hb] at e
   rw [e] at ha
   have:(boats c).contains n=true:=by simpa using ha
   rw [w2'] at this
   cases this
  | out r k =>
   simp only [stands,Bool.and_eq_true] at w1
   have a1:∀ m∈c,m.rank≤1:=fun m hm=>by
    have:=List.all_eq_true.mp w1.2 m hm
    simpa using this
   have nr:races c=[]:=(races_nil_iff c).mpr fun h=>by have:=a1 _ h; exact absurd this (by decide)
   have nr2:races (c++[.out r k])=[]:=by rw [races_line (by intro e; cases e),nr]; rfl
   have eb:boats (c++[.out r k])=boats c:=by rw [boats_snoc]; simp
   have hb:boats c≠[]:=by
    intro e; rw [e] at w1; exact absurd w1.1 (by decide)
   refine ⟨t1,t3,t2,by rw [eb]; exact F.nd,fun _=>allRank (Nat.le_refl _) a1,fun _ h=>?_,fun _=>by rw [eb]; exact hb,fun ls h=>(by rw [nr2] at h; cases h),fun o h=>?_,fun ls h=>(by rw [nr2] at h; cases h),fun ls h=>(by rw [nr2] at h; cases h)⟩
   ·rw [outs_snoc] at h
    simp at h
   ·rw [outs_snoc] at h
    rcases List.mem_append.mp h with h | h
    ·exact F.outk o h
    ·rw [List.mem_singleton.mp h]
     simp only [Line.ok,Bool.and_eq_true,within_iff,decide_eq_true_eq] at ok
     exact ⟨ok.1.2,ok.2⟩
  | race =>
   have eb:boats (c++[.race])=boats c:=by rw [boats_snoc]; simp
   have eo:outs (c++[.race])=outs c:=by rw [outs_snoc]; simp
   have hb:boats c≠[]:=by
    intro e
    have w1:(!(boats c).isEmpty)=true:=w1
    rw [e] at w1; cases w1
   have hr:races (c++[.race])≠[]:=by rw [races_race]; simp
   have old2:∀ {ls:List Line},ls∈races (c++[.race])→∀ x∈ls,ls∈races c:=fun {ls} h x hx=>by
    rw [races_race] at h
    rcases List.mem_append.mp h with h | h
    ·exact h
    ·rw [List.mem_singleton.mp h] at hx; cases hx
   exact ⟨t1,t3,t2,by rw [eb]; exact F.nd,fun h=>absurd h hr,fun h=>absurd h hr,fun _=>by rw [eb]; exact hb,fun ls h x hx m p s e=>by rw [eb]; exact F.place ls (old2 h x hx) x hx m p s e,by rw [eo]; exact F.outk,fun ls h x hx m k e=>F.pens ls (old2 h x hx) x hx m k e,fun ls h x hx m p s e=>F.nums ls (old2 h x hx) x hx m p s e⟩
  | place n p s =>
   simp only [stands,Bool.and_eq_true] at w1
   exact rest rfl w1.1
  | miss n =>
   simp only [stands,Bool.and_eq_true] at w1
   exact rest rfl w1.1
  | dis n =>
   simp only [stands,Bool.and_eq_true] at w1
   exact rest rfl w1.1
  | avg n =>
   simp only [stands,Bool.and_eq_true] at w1
   exact rest rfl w1.1
  | pen n k =>
   simp only [stands,Bool.and_eq_true] at w1
   exact rest rfl w1.1
theorem ownOf_mem {ls:List Line} {n:Name} {l:Line} (h:ownOf ls n=some l):l∈ls∧ownLine n l=true:=by
 rw [ownOf_eq] at h
 exact ⟨List.mem_of_find?_eq_some h,List.find?_some h⟩
theorem Facts.races_ok {c:Series} (F:Facts c) (r:Nat) (b:Name):RacesOk (boats c).length ((races c).take r) b:=fun ls hls m p s e =>
 F.place ls (List.mem_of_mem_take hls) _ (ownOf_mem e).1 m p s rfl
theorem Facts.races_len {c:Series} (F:Facts c) (r:Nat):((races c).take r).length≤32:=by
 rw [List.length_take]
 have:=F.nr
 omega
end Rc
end
section
namespace Rc
open RgScore
inductive Req:List Int→List (List Int)→Prop
 | take (t:List Int):Req (0::(t.length:Int)::t) [[0],t]
 | more (t:List Int):Req (1::(t.length:Int)::t) [[1],t]
 | text:Req [2] [[2]]
 | sizes:Req [3] [[3]]
 | points (r i k:Int):Req [4,r,i,k] [[4,r,i,k]]
 | out (r i:Int):Req [5,r,i] [[5,r,i]]
 | total (r i:Int):Req [6,r,i] [[6,r,i]]
 | before (r i j:Int):Req [7,r,i,j] [[7,r,i,j]]
 | place (r i:Int):Req [8,r,i] [[8,r,i]]
 | order (r:Int):Req [9,r] [[9,r]]
theorem row_some {r x t:List Int} (h:PyFlat.row r=some (x,t)):r=(x.length:Int)::(x++t):=by
 cases r with
 | nil=>cases h
 | cons n r =>
  simp only [PyFlat.row] at h
  split at h
  ·rename_i c
   have e:=Option.some.inj h
   have e1:r.take n.toNat=x:=congrArg Prod.fst e
   have e2:r.drop n.toNat=t:=congrArg Prod.snd e
   have hl:x.length=n.toNat:=by rw [←e1,List.length_take]; omega
   have hn:n=(x.length:Int):=by omega
   rw [←e1,←e2,List.take_append_drop]
   rw [←e1] at hn
   rw [←hn]
  ·cases h
theorem rows_one {r t:List Int} {xs:List (List Int)} (h:PyFlat.rows 1 r=some (xs,t)):∃ x,xs=[x]∧r=(x.length:Int)::(x++t):=by
 simp only [PyFlat.rows] at h
 cases e:PyFlat.row r with
 | none=>rw [e] at h; cases h
 | some p =>
  obtain ⟨x,s⟩:=p
  rw [e] at h
  have e2:=Option.some.inj h
  have e3:[x]=xs:=congrArg Prod.fst e2
  have e4:s=t:=congrArg Prod.snd e2
  subst e4
  exact ⟨x,e3.symm,row_some e⟩
theorem rows_zero {r t:List Int} {xs:List (List Int)} (h:PyFlat.rows 0 r=some (xs,t)):xs=[]∧r=t:=by
 simp only [PyFlat.rows] at h
 have e2:=Option.some.inj h
 exact ⟨(congrArg Prod.fst e2).symm,congrArg Prod.snd e2⟩
theorem call_req {l t:List Int} {c:List (List Int)} (h:PyFlat.call PyWqatcz.shape l=some (c,t)):∃ q,l=q++t∧Req q c:=by
 cases l with
 | nil=>cases h
 | cons p r =>
  have plain:∀ {n:Nat},PyWqatcz.shape p=some (n,0)→∃ x,x.length=n∧r=x++t∧c=[p::x]:=by
   intro n hs
   simp only [PyFlat.call,hs] at h
   split at h
   ·cases h
   ·rename_i hl
    cases e:PyFlat.rows 0 (r.drop n) with
    | none=>rw [e] at h; cases h
    | some q =>
     obtain ⟨xs,s⟩:=q
     rw [e] at h
     obtain ⟨e1,e2⟩:=rows_zero e
     have e3:=Option.some.inj h
     have e4:(p::r.take n)::xs=c:=congrArg Prod.fst e3
     have e5:s=t:=congrArg Prod.snd e3
     refine ⟨r.take n,by rw [List.length_take]; omega,?_,?_⟩
     ·rw [←e5,←e2,List.take_append_drop]
     ·rw [←e4,e1]
  have rowed:PyWqatcz.shape p=some (0,1)→∃ x,r=(x.length:Int)::(x++t)∧c=[[p],x]:=by
   intro hs
   simp only [PyFlat.call,hs] at h
   split at h
   ·cases h
   ·cases e:PyFlat.rows 1 (r.drop 0) with
    | none=>rw [e] at h; cases h
    | some q =>
     obtain ⟨xs,s⟩:=q
     rw [e] at h
     obtain ⟨x,e1,e2⟩:=rows_one e
     have e3:=Option.some.inj h
     have e4:(p::r.take 0)::xs=c:=congrArg Prod.fst e3
     have e5:s=t:=congrArg Prod.snd e3
     subst e5
     refine ⟨x,by simpa using e2,?_⟩
     rw [←e4,e1]
     rfl
  have len2:∀ {x:List Int},x.length=2→∃ a b,x=[a,b]:=fun {x} hx=>by
   match x,hx with
   | [a,b],_=>exact ⟨a,b,rfl⟩
  have len3:∀ {x:List Int},x.length=3→∃ a b d,x=[a,b,d]:=fun {x} hx=>by
   match x,hx with
   | [a,b,d],_=>exact ⟨a,b,d,rfl⟩
  by_cases p0:p=0
  ·subst p0; obtain ⟨x,rfl,rfl⟩:=rowed rfl; exact ⟨_,rfl,.take x⟩
  by_cases p1:p=1
  ·subst p1; obtain ⟨x,rfl,rfl⟩:=rowed rfl; exact ⟨_,rfl,.more x⟩
  by_cases p2:p=2
  ·subst p2
   obtain ⟨x,hx,rfl,rfl⟩:=plain (n:=0) rfl
   have:x=[]:=List.length_eq_zero_iff.mp hx
   subst this
   exact ⟨[2],rfl,.text⟩
  by_cases p3:p=3
  ·subst p3
   obtain ⟨x,hx,rfl,rfl⟩:=plain (n:=0) rfl
   have:x=[]:=List.length_eq_zero_iff.mp hx
   subst this
   exact ⟨[3],rfl,.sizes⟩
  by_cases p4:p=4
  ·subst p4
   obtain ⟨x,hx,rfl,rfl⟩:=plain (n:=3) rfl
   obtain ⟨a,b,d,rfl⟩:=len3 hx
   exact ⟨_,rfl,.points a b d⟩
  by_cases p5:p=5
  ·subst p5
   obtain ⟨x,hx,rfl,rfl⟩:=plain (n:=2) rfl
   obtain ⟨a,b,rfl⟩:=len2 hx
   exact ⟨_,rfl,.out a b⟩
  by_cases p6:p=6
  ·subst p6
   obtain ⟨x,hx,rfl,rfl⟩:=plain (n:=2) rfl
   obtain ⟨a,b,rfl⟩:=len2 hx
   exact ⟨_,rfl,.total a b⟩
  by_cases p7:p=7
  ·subst p7
   obtain ⟨x,hx,rfl,rfl⟩:=plain (n:=3) rfl
   obtain ⟨a,b,d,rfl⟩:=len3 hx
   exact ⟨_,rfl,.before a b d⟩
  by_cases p8:p=8
  ·subst p8
   obtain ⟨x,hx,rfl,rfl⟩:=plain (n:=2) rfl
   obtain ⟨a,b,rfl⟩:=len2 hx
   exact ⟨_,rfl,.place a b⟩
  by_cases p9:p=9
  ·subst p9
   obtain ⟨x,hx,rfl,rfl⟩:=plain (n:=1) rfl
   match x,hx with
   | [a],_=>exact ⟨_,rfl,.order a⟩
  have hs:PyWqatcz.shape p=none:=by
   unfold PyWqatcz.shape
   rw [if_neg p0,if_neg p1,if_neg p2,if_neg p3,if_neg p4,if_neg p5,if_neg p6,if_neg p7,if_neg p8,if_neg p9]
  simp only [PyFlat.call,hs] at h
  cases h
theorem whole_req {q:List Int} {c:List (List Int)} (h:Req q c):PyWqatcz.whole c=c:=by
 cases h <;> rfl
inductive Left:List Int→List (List (List Int))→Prop
 | nil:Left [] []
 | cons {q l:List Int} {c:List (List Int)} {cs:List (List (List Int))}:Req q c→Left l cs→Left (q++l) (c::cs)
theorem calls_left:∀ (f:Nat) (l:List Int) (cs:List (List (List Int))),PyFlat.calls PyWqatcz.shape f l=some cs→Left l cs
 | _,[],cs,h=>by
  have e:cs=[]:=by
   unfold PyFlat.calls at h
   exact (Option.some.inj h).symm
  subst e
  exact .nil
 | 0,_::_,cs,h=>by cases h
 | f + 1,p::r,cs,h=>by
  simp only [PyFlat.calls] at h
  cases e:PyFlat.call PyWqatcz.shape (p::r) with
  | none=>rw [e] at h; cases h
  | some x =>
   obtain ⟨c,t⟩:=x
   rw [e] at h
   dsimp only at h
   cases e2:PyFlat.calls PyWqatcz.shape f t with
   | none=>rw [e2] at h; cases h
   | some ds =>
    rw [e2] at h
    have e3:c::ds=cs:=Option.some.inj h
    obtain ⟨q,hq,hr⟩:=call_req e
    rw [hq,←e3]
    exact .cons hr (calls_left f t ds e2)
theorem Left.whole {l:List Int} {cs:List (List (List Int))} (h:Left l cs):cs.map PyWqatcz.whole=cs:=by
 induction h with
 | nil=>rfl
 | cons r _ ih=>rw [List.map_cons,whole_req r,ih]
theorem asked_left {l:List Int} (h:PyWqatcz.answers_asked l=true):∃ cs,Left l cs∧PyWqatcz.answers l=PyFlat.told (PyFlat.played WqatczNeutral.step WqatczNeutral.start cs)∧cs.all WqatczNeutral.asked1=true∧(PyWqatcz.answers l).length≤10000000:=by
 unfold PyWqatcz.answers_asked at h
 cases e:PyWqatcz.calls l with
 | none=>rw [e] at h; cases h
 | some cs =>
  rw [e] at h
  dsimp only at h
  have e':=e
  unfold PyWqatcz.calls at e
  cases e2:PyFlat.calls PyWqatcz.shape l.length l with
  | none=>rw [e2] at e; cases e
  | some ds =>
   rw [e2] at e
   have L:=calls_left _ _ _ e2
   have ed:ds=cs:=by
    have:ds.map PyWqatcz.whole=cs:=Option.some.inj e
    rw [L.whole] at this
    exact this
   subst ed
   rw [Bool.and_eq_true,Bool.and_eq_true] at h
   have ha:=h.1.2
   simp only [WqatczNeutral.asked,Bool.and_eq_true] at ha
   refine ⟨ds,L,?_,ha.1.1.1,?_⟩
   ·unfold PyWqatcz.answers
    rw [e']
   ·have:=h.2
    unfold PyFlat.short at this
    exact of_decide_eq_true this
theorem told_cons (a:List Int) (l:List (List Int)):PyFlat.told (a::l)=((a.length:Int)::a)++PyFlat.told l:=by
 unfold PyFlat.told
 rw [List.flatMap_cons]
theorem told_played (s:WqatczNeutral.S) (c:List (List Int)) (cs:List (List (List Int))) :
  PyFlat.told (PyFlat.played WqatczNeutral.step s (c::cs))=(((WqatczNeutral.step s c).2.length:Int)::(WqatczNeutral.step s c).2)++PyFlat.told (PyFlat.played WqatczNeutral.step (WqatczNeutral.step s c).1 cs):=by
 rw [PyFlat.played,told_cons]
section
variable {c:Series} (F:Facts c)
include F
theorem points_told {r i k:Nat} {n:Name} (hr:r≤(races c).length) (hn:(boats c)[i]?=some n) (hk:k < r) :
  Wqatcz.told c (.points r i k)=⟨0,[(fr ((ptsN (boats c).length ((races c).take r) n).getD k 0)).1,(fr ((ptsN (boats c).length ((races c).take r) n).getD k 0)).2]⟩:=by
 have hp:=points_eq (many:=howMany c r) (F.races_ok r n) (F.races_len r)
 have hl:k < (ptsN (boats c).length ((races c).take r) n).length:=by rw [ptsN_len,List.length_take]; omega
 simp only [Wqatcz.told,Wqatcz.ofBoat]
 rw [if_neg (show ¬ (races c).length < r by omega),hn]
 dsimp only
 unfold rowBy
 rw [hp,List.getElem?_map,List.getElem?_eq_getElem hl,List.getD_eq_getElem?_getD,List.getElem?_eq_getElem hl]
 rfl
theorem points_none {r i k:Nat} {n:Name} (hr:r≤(races c).length) (hn:(boats c)[i]?=some n) (hk:r≤k):Wqatcz.told c (.points r i k)=⟨-4,[]⟩:=by
 have hp:=points_eq (many:=howMany c r) (F.races_ok r n) (F.races_len r)
 have hl:(ptsN (boats c).length ((races c).take r) n).length≤k:=by rw [ptsN_len,List.length_take]; omega
 simp only [Wqatcz.told,Wqatcz.ofBoat]
 rw [if_neg (show ¬ (races c).length < r by omega),hn]
 dsimp only
 unfold rowBy
 rw [hp,List.getElem?_map,List.getElem?_eq_none_iff.mpr hl]
 rfl
theorem out_told {r i:Nat} {n:Name} (hr:r≤(races c).length) (hn:(boats c)[i]?=some n) :
  Wqatcz.told c (.out r i)=Wqatcz.rowAns (risingN (outN (boats c).length (howMany c r) ((races c).take r) n)):=by
 simp only [Wqatcz.told,Wqatcz.ofBoat]
 rw [if_neg (show ¬ (races c).length < r by omega),hn]
 dsimp only
 unfold rowBy
 rw [row_out (F.races_ok r n) (F.races_len r),mergeSort_rising]
theorem total_told {r i:Nat} {n:Name} (hr:r≤(races c).length) (hn:(boats c)[i]?=some n) :
  Wqatcz.told c (.total r i)=⟨0,[(fr (scoreN (boats c).length (howMany c r) ((races c).take r) n).total).1,(fr (scoreN (boats c).length (howMany c r) ((races c).take r) n).total).2]⟩:=by
 simp only [Wqatcz.told,Wqatcz.ofBoat]
 rw [if_neg (show ¬ (races c).length < r by omega),hn]
 dsimp only
 unfold rowBy
 rw [row_total (F.races_ok r n) (F.races_len r)]
 rfl
theorem before_told {r i j:Nat} {n m:Name} (hr:r≤(races c).length) (hn:(boats c)[i]?=some n) (hm:(boats c)[j]?=some m) :
  Wqatcz.told c (.before r i j)=⟨((whoN (scoreN (boats c).length (howMany c r) ((races c).take r) n) (scoreN (boats c).length (howMany c r) ((races c).take r) m)).1:Int),
   [(whoN (scoreN (boats c).length (howMany c r) ((races c).take r) n) (scoreN (boats c).length (howMany c r) ((races c).take r) m)).2]⟩:=by
 simp only [Wqatcz.told,Wqatcz.ofBoat]
 rw [if_neg (show ¬ (races c).length < r by omega),hn]
 dsimp only
 rw [if_neg (show ¬ (races c).length < r by omega),hm]
 dsimp only
 unfold rowBy
 rw [stand_eq (F.races_ok r n) (F.races_ok r m) (F.races_len r)]
def scoresN (c:Series) (r:Nat):List Score:=(boats c).map (scoreN (boats c).length (howMany c r) ((races c).take r))
omit F in
theorem rowsBy_eq (r:Nat):rowsBy c r=(boats c).map (rowOf (boats c).length (howMany c r) ((races c).take r)):=rfl
theorem place_told {r i:Nat} {n:Name} (hr:r≤(races c).length) (hn:(boats c)[i]?=some n) :
  Wqatcz.told c (.place r i)=⟨0,[1 + ((scoresN c r).filter fun s=>scoreLt s (scoreN (boats c).length (howMany c r) ((races c).take r) n)).length,
   ((scoresN c r).filter fun s=>decide (s=scoreN (boats c).length (howMany c r) ((races c).take r) n)).length]⟩:=by
 simp only [Wqatcz.told,Wqatcz.ofBoat]
 rw [if_neg (show ¬ (races c).length < r by omega),hn]
 dsimp only
 unfold rowBy
 rw [rowsBy_eq,place_eq (List.mem_of_getElem? hn) (fun m _=>F.races_ok r m) (F.races_len r)]
 rfl
theorem order_told {r:Nat} (hr:r≤(races c).length) :
  Wqatcz.told c (.order r)=Wqatcz.rowAns ((sortK scoreO (fun p:Name×Nat=>scoreN (boats c).length (howMany c r) ((races c).take r) p.1) (boats c).zipIdx).map Prod.snd):=by
 simp only [Wqatcz.told]
 rw [if_neg (show ¬ (races c).length < r by omega),rowsBy_eq,order_eq (fun m _=>F.races_ok r m) (F.races_len r)]
end
theorem howMany_fold (c:Series) (r:Nat):howMany c r=(outs c).foldl (fun a o=>if o.1≤r then o.2 else a) 0:=by
 unfold howMany
 have go:∀ (l:List (Nat×Nat)) (a:Nat),((l.filter fun o=>decide (o.1≤r)).getLast?.map fun o=>o.2).getD a=l.foldl (fun a o=>if o.1≤r then o.2 else a) a:=by
  intro l
  induction l with
  | nil=>intro a; rfl
  | cons o l ih =>
   intro a
   rw [List.foldl_cons,List.filter_cons]
   by_cases h:o.1≤r
   ·rw [if_pos (decide_eq_true h),if_pos h,←ih]
    cases e:l.filter fun o=>decide (o.1≤r) with
    | nil=>rfl
    | cons x m =>
     rw [List.getLast?_cons_cons]
     obtain ⟨z,hz⟩:∃ z,(x::m).getLast?=some z:=⟨_,List.getLast?_eq_some_getLast (by simp)⟩
     rw [hz]
     rfl
   ·rw [if_neg (by simpa using h),if_neg h,ih]
 exact go (outs c) 0
end Rc
end
section
namespace Rc
open RgScore
def penable:Option Line→Bool
 | some (.place _ _ _)=>true
 | some (.miss _)=>true
 | _=>false
theorem out_mem {c:Series}:outs c=[]↔∀ l∈c,∀ r k,l≠Line.out r k:=by
 constructor
 ·intro h l hl r k e
  have:(r,k)∈outs c:=by
   unfold outs
   exact List.mem_filterMap.mpr ⟨l,hl,by rw [e]⟩
  rw [h] at this
  cases this
 ·intro h
  unfold outs
  refine List.filterMap_eq_nil_iff.mpr fun l hl=>?_
  cases l with
  | out r k=>exact absurd rfl (h _ hl r k)
  | _=>rfl
theorem stands_boat {c:Series} (F:Facts c) (n:Name):stands c (.boat n)=!(decide (0 < (outs c).length) || decide (0 < (races c).length)):=by
 show c.all (fun l=>l.rank==0)=_
 by_cases h1:races c=[]
 ·by_cases h2:outs c=[]
  ·rw [h1,h2]
   exact List.all_eq_true.mpr fun l hl=>by rw [F.rank0 h1 h2 l hl]; rfl
  ·have:∃ l∈c,∃ r k,l=Line.out r k:=Classical.byContradiction fun z=>h2 (out_mem.mpr fun l hl r k e=>z ⟨l,hl,r,k,e⟩)
   obtain ⟨l,hl,r,k,rfl⟩:=this
   have e:decide (0 < (outs c).length)=true:=by
    rw [decide_eq_true_eq]
    exact List.length_pos_iff.mpr h2
   rw [e]
   exact List.all_eq_false.mpr ⟨_,hl,by show ¬ ((1:Nat)==0)=true; decide⟩
 ·have:Line.race∈c:=Classical.byContradiction fun z=>h1 ((races_nil_iff c).mpr z)
  have e:decide (0 < (races c).length)=true:=by
   rw [decide_eq_true_eq]
   exact List.length_pos_iff.mpr h1
  rw [e,Bool.or_true]
  exact List.all_eq_false.mpr ⟨_,this,by show ¬ ((2:Nat)==0)=true; decide⟩
theorem empty_len {α:Type} (l:List α):l.isEmpty=decide (l.length=0):=by cases l <;> simp
theorem stands_out {c:Series} (F:Facts c) (r k:Nat):stands c (.out r k)=!(decide ((boats c).length=0) || decide (0 < (races c).length)):=by
 show (!(boats c).isEmpty && c.all (fun l=>decide (l.rank≤1)))=_
 rw [Bool.not_or,empty_len]
 congr 1
 by_cases h1:races c=[]
 ·rw [h1]
  exact List.all_eq_true.mpr fun l hl=>decide_eq_true (F.rank1 h1 l hl)
 ·have:Line.race∈c:=Classical.byContradiction fun z=>h1 ((races_nil_iff c).mpr z)
  have e:decide (0 < (races c).length)=true:=by
   rw [decide_eq_true_eq]
   exact List.length_pos_iff.mpr h1
  rw [e]
  exact List.all_eq_false.mpr ⟨_,this,by show ¬ (decide ((2:Nat)≤1))=true; decide⟩
theorem stands_race (c:Series):stands c .race=!decide ((boats c).length=0):=by
 show (!(boats c).isEmpty)=_
 rw [empty_len]
theorem begun_len (c:Series):begun c=!decide ((races c).length=0):=by rw [begun_iff,empty_len]
def isPen:Line→Bool
 | .pen _ _=>true
 | _=>false
theorem stands_in {c:Series} {l:Line} (h:inRace l=true):stands c l=!((decide ((races c).length=0) || !(boats c).contains (nameOf l)) || (isPen l && !penable (ownOf (thisRace c) (nameOf l)))):=by
 cases l with
 | boat n=>cases h
 | out r k=>cases h
 | race=>cases h
 | pen n k =>
  show (begun c && ((boats c).contains n && _))=_
  have e:∀ o:Option Line,(match o with | some (.place _ _ _)=>true | some (.miss _)=>true | _=>false)=penable o:=fun o=>by
   cases o with
   | none=>rfl
   | some l=>cases l <;> rfl
  have e2:=e (ownOf (thisRace c) n)
  rw [begun_len]
  show (!decide ((races c).length=0) && ((boats c).contains n && _))=!((decide ((races c).length=0) || !(boats c).contains n) || (true && !penable (ownOf (thisRace c) n)))
  generalize penable (ownOf (thisRace c) n)=x at *
  generalize (boats c).contains n=y
  generalize decide ((races c).length=0)=z
  refine (congrArg (fun q=>!z && (y && q)) e2).trans ?_
  cases x <;> cases y <;> cases z <;> rfl
 | _ =>
  show (begun c && (boats c).contains _)=_
  rw [begun_len]
  simp [isPen,nameOf]
theorem many_boat {c:Series} (F:Facts c) (n:Name):tooMany c (.boat n)=decide (64≤(boats c).length):=by
 unfold tooMany
 dsimp only
 rw [boats_snoc,outs_snoc,races_line (by simp),addLast_length,List.length_append]
 have:=F.no
 have:=F.nr
 simp only [List.length_cons,List.length_nil,List.append_nil]
 rw [decide_eq_false (by omega:¬ 32 < (races c).length),decide_eq_false (by omega:¬ 32 < (outs c).length),Bool.or_false,Bool.or_false,Bool.eq_iff_iff,decide_eq_true_eq,decide_eq_true_eq]
 omega
theorem many_out {c:Series} (F:Facts c) (r k:Nat):tooMany c (.out r k)=decide (32≤(outs c).length):=by
 unfold tooMany
 dsimp only
 rw [boats_snoc,outs_snoc,races_line (by simp),addLast_length]
 have:=F.nb
 have:=F.nr
 simp only [List.length_append,List.length_cons,List.length_nil,List.append_nil]
 rw [decide_eq_false (by omega:¬ 32 < (races c).length),decide_eq_false (by omega:¬ 64 < (boats c).length),Bool.false_or,Bool.false_or,Bool.eq_iff_iff,decide_eq_true_eq,decide_eq_true_eq]
 omega
theorem many_race {c:Series} (F:Facts c):tooMany c .race=decide (32≤(races c).length):=by
 unfold tooMany
 dsimp only
 rw [boats_snoc,outs_snoc,races_race]
 have:=F.nb
 have:=F.no
 simp only [List.length_append,List.length_cons,List.length_nil,List.append_nil]
 rw [decide_eq_false (by omega:¬ 32 < (outs c).length),decide_eq_false (by omega:¬ 64 < (boats c).length),Bool.false_or,Bool.or_false,Bool.eq_iff_iff,decide_eq_true_eq,decide_eq_true_eq]
 omega
theorem many_in {c:Series} (F:Facts c) {l:Line} (h:inRace l=true):tooMany c l=false:=by
 unfold tooMany
 dsimp only
 have hl:l≠.race:=by intro e; rw [e] at h; cases h
 have:=F.nb
 have:=F.no
 have:=F.nr
 have e1:boats (c++[l])=boats c:=by rw [boats_snoc]; cases l <;> cases h <;> simp
 have e2:outs (c++[l])=outs c:=by rw [outs_snoc]; cases l <;> cases h <;> simp
 rw [e1,e2,races_line hl,addLast_length,decide_eq_false (by omega),decide_eq_false (by omega),decide_eq_false (by omega)]
 rfl
def clashIn (c:Series) (l:Line):Bool:=match l with
 | .pen n _=>(penOf (thisRace c) n).isSome
 | .place n p s=>(ownOf (thisRace c) n).isSome || decide ((boats c).length < p + s - 1)
 | l=>(ownOf (thisRace c) (nameOf l)).isSome
theorem clash_in {c:Series} {l:Line} (h:inRace l=true):clashes c l=clashIn c l:=by
 cases l <;> cases h <;> rfl
theorem idx_some {l:List Name} {n:Name} {i:Nat} (h:l.idxOf? n=some i):l[i]?=some n:=by
 have:=List.findIdx?_eq_some_iff_getElem.mp h
 obtain ⟨h1,h2,_⟩:=this
 rw [List.getElem?_eq_getElem h1]
 exact congrArg some (by simpa using h2)
theorem idx_isSome (l:List Name) (n:Name):(l.idxOf? n).isSome=l.contains n:=by
 rw [Bool.eq_iff_iff,List.isSome_idxOf?,List.contains_iff_mem]
end Rc
end
section
namespace L2
open PySem PySem.Spec PyProof.Rows
abbrev Key:=Sum Int Str
def keyIs:Key→Value→Bool
 | .inl k,v=>Value.isInt k v
 | .inr x,v=>Value.isStrOf x v
def keyH (w:World):Key→Int
 | .inl k=>hashInt k
 | .inr x=>hashStr w x
theorem keyIs_shape:∀ {k:Key} {v:Value},keyIs k v=true→(∃ i t,k=Sum.inl i∧v=Value.int i t)∨(∃ x t,k=Sum.inr x∧v=Value.str x t)
 | .inl i,v,h=>by
  obtain ⟨t,e⟩:=Value.isInt_shape (k:=i) (v:=v) h
  exact .inl ⟨i,t,rfl,e⟩
 | .inr x,v,h=>by
  obtain ⟨t,e⟩:=Value.isStrOf_shape (x:=x) (v:=v) h
  exact .inr ⟨x,t,rfl,e⟩
theorem keyIs_int (i:Int) (t:Tok):keyIs (.inl i) (.int i t)=true:=by simp [keyIs,Value.isInt]
theorem keyIs_str (x:Str) (t:Tok):keyIs (.inr x) (.str x t)=true:=by simp [keyIs,Value.isStrOf]
theorem key_ll (a b:Int):decide ((Sum.inl a:Key)=Sum.inl b)=(a==b):=by
 by_cases e:a=b
 ·subst e; simp
 ·have h:¬ (Sum.inl a:Key)=Sum.inl b:=fun q=>e (Sum.inl.inj q)
  rw [decide_eq_false h]
  exact (beq_eq_false_iff_ne.mpr e).symm
theorem key_rr (a b:Str):decide ((Sum.inr a:Key)=Sum.inr b)=decide (a=b):=by
 by_cases e:a=b
 ·subst e; simp
 ·have h:¬ (Sum.inr a:Key)=Sum.inr b:=fun q=>e (Sum.inr.inj q)
  rw [decide_eq_false h,decide_eq_false e]
theorem key_lr (a:Int) (b:Str):decide ((Sum.inl a:Key)=Sum.inr b)=false:=decide_eq_false (fun q=>nomatch q)
theorem key_rl (a:Str) (b:Int):decide ((Sum.inr a:Key)=Sum.inl b)=false:=decide_eq_false (fun q=>nomatch q)
def mixKind (prog:Program) (w:World):PySem.KeyKind prog w Key where
 is:=keyIs
 hash:=keyH w
 inj:=fun v a b ha hb=>by
  rcases keyIs_shape ha with ⟨i,t,rfl,rfl⟩ | ⟨x,t,rfl,rfl⟩
  ·rcases keyIs_shape hb with ⟨j,u,rfl,e⟩ | ⟨y,u,rfl,e⟩
   ·injection e with e1 _; rw [e1]
   ·exact nomatch e
  ·rcases keyIs_shape hb with ⟨j,u,rfl,e⟩ | ⟨y,u,rfl,e⟩
   ·exact nomatch e
   ·injection e with e1 _; rw [e1]
 byValue:=fun k v h=>by
  rcases keyIs_shape h with ⟨i,t,rfl,rfl⟩ | ⟨x,t,rfl,rfl⟩ <;> rfl
 pyHash:=fun hv h=>by
  rcases keyIs_shape hv with ⟨i,t,rfl,rfl⟩ | ⟨x,t,rfl,rfl⟩
  ·exact wpAny_pyHash_int h
  ·exact wpAny_pyHash_str h
 eqBool:=fun hu hv h=>by
  rcases keyIs_shape hu with ⟨i,t,rfl,rfl⟩ | ⟨x,t,rfl,rfl⟩
  ·rcases keyIs_shape hv with ⟨j,u,rfl,rfl⟩ | ⟨y,u,rfl,rfl⟩
   ·rw [key_ll] at h; exact wpAny_eqBool_int h
   ·rw [key_lr] at h; exact SeqAt.EqAt.int_str i t y u _ _ _ _ h
  ·rcases keyIs_shape hv with ⟨j,u,rfl,rfl⟩ | ⟨y,u,rfl,rfl⟩
   ·rw [key_rl] at h; exact SeqAt.EqAt.str_int x t j u _ _ _ _ h
   ·rw [key_rr] at h; exact wpAny_eqBool_str h
 «strs»:=fun k x t v h=>by
  rcases keyIs_shape h with ⟨i,u,rfl,e⟩ | ⟨y,u,rfl,e⟩
  ·exact nomatch e
  ·injection e with e1 _
   subst e1
   cases v <;> rfl
theorem mixKind_int (prog:Program) (w:World) (i:Int) (t:Tok):(mixKind prog w).is (.inl i) (.int i t)=true:=keyIs_int i t
theorem mixKind_str (prog:Program) (w:World) (x:Str) (t:Tok):(mixKind prog w).is (.inr x) (.str x t)=true:=keyIs_str x t
end L2
namespace L2
open PySem PySem.Spec PyProof.Rows
inductive V where
 | non | bl (b:Bool) | int (i:Int) | str (x:Str) | byt (b:Array UInt8) | flt (b:UInt64) | ref (a:Addr) | ty (n:String)
 deriving DecidableEq
def RelV:V→Value→Prop
 | .non,u=>u=Value.none
 | .bl b,u=>u=Value.bool b
 | .int i,u=>∃ t,u=Value.int i t
 | .str x,u=>∃ t,u=Value.str x t
 | .byt b,u=>∃ t,u=Value.bytes b t
 | .flt b,u=>∃ t,u=Value.float b t
 | .ref a,u=>u=Value.ref a
 | .ty n,u=>u=Value.type n
abbrev Vals:List V→List Value→Prop:=Paired RelV
theorem Vals.length {xs:List V} {us:List Value} (r:Vals xs us):xs.length=us.length:=Paired.length r
theorem Vals.get:∀ {xs:List V} {us:List Value} {i:Nat} {x:V},Vals xs us→xs[i]?=some x→∃ u,us[i]?=some u∧RelV x u
 | _,_,_,_,.nil,e=>by simp at e
 | _,_,0,_,.cons r _,e=>by simp at e; subst e; exact ⟨_,rfl,r⟩
 | _,_,i + 1,x,.cons _ t,e=>by
  obtain ⟨u,h1,h2⟩:=Vals.get (i:=i) (x:=x) t (by simpa using e)
  exact ⟨u,by simpa using h1,h2⟩
theorem Vals.append:∀ {xs ys:List V} {us ws:List Value},Vals xs us→Vals ys ws→Vals (xs++ys) (us++ws)
 | _,_,_,_,.nil,s=>s
 | _,_,_,_,.cons r t,s=>.cons r (Vals.append t s)
theorem Vals.take:∀ {xs:List V} {us:List Value} (n:Nat),Vals xs us→Vals (xs.take n) (us.take n)
 | _,_,0,_=>.nil
 | _,_,_ + 1,.nil=>.nil
 | _,_,n + 1,.cons r t=>.cons r (Vals.take n t)
theorem Vals.drop:∀ {xs:List V} {us:List Value} (n:Nat),Vals xs us→Vals (xs.drop n) (us.drop n)
 | _,_,0,r=>r
 | _,_,_ + 1,.nil=>.nil
 | _,_,n + 1,.cons _ t=>Vals.drop n t
def RelO:Option V→Option Value→Prop
 | some v,some u=>RelV v u
 | none,none=>True
 | _,_=>False
def KV {κ:Type}:List (κ×V)→List (κ×Value)→Prop:=Paired fun (p:κ×V) (q:κ×Value)=>p.1=q.1∧RelV p.2 q.2
def kV:Key→V
 | .inl i=>.int i
 | .inr x=>.str x
inductive HO where
 | lst (xs:List V)
 | tup (xs:List V)
 | dK (kvs:List (Key×V)) | dT (kvs:List (List Key×V))
 | set (S:Int→Bool) (n:Nat)
 | ins (C dx:Addr) (fs:List (Str×V))
 | own (x:Addr)
 | xd (fs:List (Str×V))
 | met (f x:Addr)
 | rng (lo hi:Int)
 | frz (o:Obj) (u:HO)
 | tbl (ps:Array Value)
 | ext (φ:Heap→Prop)
abbrev Hp:=Addr→Option HO
def upd (H:Hp) (a:Addr) (o:HO):Hp:=fun b=>if b=a then some o else H b
theorem upd_same {H:Hp} {a:Addr} {o:HO}:upd H a o a=some o:=by unfold upd; rw [if_pos rfl]
theorem upd_ne {H:Hp} {a b:Addr} {o:HO} (h:b≠a):upd H a o b=H b:=by unfold upd; rw [if_neg h]
theorem upd_upd {H:Hp} {a:Addr} {o u:HO}:upd (upd H a o) a u=upd H a u:=by
 funext b; unfold upd; split <;> rfl
theorem ne_of {H:Hp} {a b:Addr} {o u:HO} (h:H a=some o) (h':H b=some u) (d:o≠u):a≠b:=by
 intro e; subst e; rw [h] at h'; exact d (Option.some.inj h')
theorem ne_of_none {H:Hp} {a b:Addr} {o:HO} (h:H a=some o) (h':H b=none):a≠b:=by
 intro e; subst e; rw [h] at h'; cases h'
section
variable (P:Program) (w:World)
def ObjOk (H:Hp) (h:Heap) (a:Addr):HO→Prop
 | .lst xs=>xs.length≤sizeLine∧∃ (its:List Value) (n:Nat),Vals xs its∧h.get? a=some { cls:=.type "list",data:=.seq its.toArray n }
 | .tup xs=>xs.length≤sizeLine∧∃ its:List Value,Vals xs its∧IsTup h a its.toArray
 | .dK kvs=>kvs.length≤sizeLine∧(a==sysModules)=false∧∃ vs,KV kvs vs∧h.DictOf (mixKind P w) a vs
 | .dT kvs=>kvs.length≤sizeLine∧(a==sysModules)=false∧∃ xs:List (List Key×Addr×Value),
   Paired (fun (p:List Key×V) (q:List Key×Addr×Value)=>p.1=q.1∧H q.2.1=some (.tup (p.1.map kV))∧RelV p.2 q.2.2) kvs xs ∧
   ∃ o es ep,h.get? a=some o∧o.ExactDict∧o.data=.dict es ep∧es.toList=xs.map (entryOfKey (tupleKind (mixKind P w)))∧(xs.map (·.1)).Nodup
 | .set S n=>h.SetOf (intKind P w) a S n
 | .ins C dx fs=>H dx=some (.own a)∧fs.length≤1000∧dx≠a∧h.get? a=some (PySem.W.instObj C dx) ∧
   ∃ mA,h.Ns1 dx mA∧(∀ f,RelO (fs.lookup f) (mA f))∧PySem.Within mA (fs.map (·.1))
 | .own _=>∃ o,h.get? a=some o
 | .xd fs=>∃ mA,h.Ns1 a mA∧∀ f,RelO (fs.lookup f) (mA f)
 | .rng lo hi=>∃ t u v,h.get? a=some { cls:=.type "range",data:=.fields #[.int lo t,.int hi u,.int 1 v] }
 | .frz o u=>h.get? a=some o∧ObjOk H h a u
 | .tbl ps=>h.get? a=some { cls:=.none,data:=.fields ps }
 | .met f x=>h.get? a=some (PySem.W.methodObj (.ref f) (.ref x))
 | .ext φ=>φ h∧(∃ o,h.get? a=some o)∧∀ h1 h2:Heap,φ h1→(∀ o,h1.get? a=some o→h2.get? a=some o)→φ h2
def HOk (H:Hp) (h:Heap):Prop:=∀ a o,H a=some o→ObjOk P w H h a o
end
section
variable {P:Program} {w:World} {H H':Hp} {h h':Heap} {a:Addr} {o:HO}
theorem ObjOk.lt (x:ObjOk P w H h a o):a < h.objs.size:=by
 cases o with
 | lst xs=>obtain ⟨_,_,_,_,e⟩:=x; exact Heap.lt_size e
 | tup xs=>obtain ⟨_,_,_,p⟩:=x; exact p.lt
 | dK kvs=>obtain ⟨_,_,_,_,o,_,_,e,_⟩:=x; exact Heap.lt_size e
 | dT kvs=>obtain ⟨_,_,_,_,o,_,_,e,_⟩:=x; exact Heap.lt_size e
 | set S n=>obtain ⟨o,_,_,_,e,_⟩:=x; exact Heap.lt_size e
 | ins C dx fs=>obtain ⟨_,_,_,e,_⟩:=x; exact Heap.lt_size e
 | own y=>obtain ⟨_,e⟩:=x; exact Heap.lt_size e
 | xd fs=>obtain ⟨_,⟨_,_,_,e,_⟩,_⟩:=x; exact Heap.lt_size e
 | rng lo hi=>obtain ⟨_,_,_,e⟩:=x; exact Heap.lt_size e
 | frz ob u=>obtain ⟨e,_⟩:=x; exact Heap.lt_size e
 | tbl ps=>exact Heap.lt_size (show h.get? a=some _ from x)
 | met f y=>exact Heap.lt_size (show h.get? a=some _ from x)
 | ext φ=>obtain ⟨_,⟨_,e⟩,_⟩:=x; exact Heap.lt_size e
theorem Paired.mapP {α β:Type} {F G:α→β→Prop}:∀ {l₁:List α} {l₂:List β},Paired F l₁ l₂→(∀ a b,F a b→G a b)→Paired G l₁ l₂
 | _,_,.nil,_=>.nil
 | _,_,.cons r t,f=>.cons (f _ _ r) (Paired.mapP t f)
theorem ObjOk.stay (x:ObjOk P w H h a o) (k:∀ b u,(b=a∨H b=some (.own a))→h.get? b=some u→h'.get? b=some u)
  (ho:∀ b,H b=some (.own a)→H' b=some (.own a)) (ht:∀ b xs,H b=some (.tup xs)→H' b=some (.tup xs)):ObjOk P w H' h' a o:=by
 induction o with
 | lst xs=>obtain ⟨z,its,n,r,e⟩:=x; exact ⟨z,its,n,r,k _ _ (.inl rfl) e⟩
 | tup xs=>obtain ⟨z,its,r,ob,e,c⟩:=x; exact ⟨z,its,r,ob,k _ _ (.inl rfl) e,c⟩
 | dK kvs=>obtain ⟨z,y,vs,r,ob,es,ep,e,c⟩:=x; exact ⟨z,y,vs,r,ob,es,ep,k _ _ (.inl rfl) e,c⟩
 | dT kvs =>
  obtain ⟨z,y,xs,r,ob,es,ep,e,c⟩:=x
  exact ⟨z,y,xs,Paired.mapP r fun p q z=>⟨z.1,ht _ _ z.2.1,z.2.2⟩,ob,es,ep,k _ _ (.inl rfl) e,c⟩
 | set S n=>obtain ⟨ob,es,ep,t,e,c⟩:=x; exact ⟨ob,es,ep,t,k _ _ (.inl rfl) e,c⟩
 | ins C dx fs =>
  obtain ⟨d,z,ne,e,mA,⟨od,es,ep,e2,c⟩,r⟩:=x
  exact ⟨ho _ d,z,ne,k _ _ (.inl rfl) e,mA,⟨od,es,ep,k _ _ (.inr d) e2,c⟩,r⟩
 | own y=>obtain ⟨ob,e⟩:=x; exact ⟨ob,k _ _ (.inl rfl) e⟩
 | xd fs=>obtain ⟨mA,⟨od,es,ep,e,c⟩,r⟩:=x; exact ⟨mA,⟨od,es,ep,k _ _ (.inl rfl) e,c⟩,r⟩
 | rng lo hi=>obtain ⟨t,u,v,e⟩:=x; exact ⟨t,u,v,k _ _ (.inl rfl) e⟩
 | frz ob u ih=>obtain ⟨e,q⟩:=x; exact ⟨k _ _ (.inl rfl) e,ih q⟩
 | tbl ps =>
  have e:h.get? a=some { cls:=.none,data:=.fields ps }:=x
  show h'.get? a=some { cls:=.none,data:=.fields ps }
  exact k a _ (.inl rfl) e
 | met f y =>
  have e:h.get? a=some (PySem.W.methodObj (.ref f) (.ref y)):=x
  show h'.get? a=some (PySem.W.methodObj (.ref f) (.ref y))
  exact k a _ (.inl rfl) e
 | ext φ=>obtain ⟨p,⟨o,e⟩,st⟩:=x; exact ⟨st _ _ p fun o q=>k _ _ (.inl rfl) q,⟨o,k _ _ (.inl rfl) e⟩,st⟩
theorem HOk.lt (x:HOk P w H h) (e:H a=some o):a < h.objs.size:=(x a o e).lt
theorem HOk.fresh (x:HOk P w H h) (e:h.objs.size≤a):H a=none:=by
 cases q:H a with
 | none=>rfl
 | some u=>exact absurd (Nat.lt_of_lt_of_le (x.lt q) e) (Nat.lt_irrefl _)
theorem HOk.kept (x:HOk P w H h) (k:∀ b u,h.get? b=some u→h'.get? b=some u):HOk P w H h':=fun a o e =>
 (x a o e).stay (fun b u _ q=>k b u q) (fun _ q=>q) fun _ _ q=>q
theorem HOk.laid (x:HOk P w H h) (k:∀ b u,h.get? b=some u→h'.get? b=some u) (hp:h.objs.size≤a) (new:ObjOk P w (upd H a o) h' a o):HOk P w (upd H a o) h':=fun b u e=>by
 have hn:=x.fresh hp
 by_cases hb:b=a
 ·subst hb; rw [upd_same] at e; cases e; exact new
 ·rw [upd_ne hb] at e
  exact (x b u e).stay (fun c v _ q=>k c v q) (fun c q=>by rw [upd_ne (ne_of_none q hn)]; exact q) fun c xs q=>by rw [upd_ne (ne_of_none q hn)]; exact q
end
def Rd (H:Hp) (a:Addr) (u:HO):Prop:=H a=some u∨∃ o,H a=some (.frz o u)
theorem Rd.ok {P:Program} {w:World} {H:Hp} {h:Heap} {a:Addr} {u:HO} (r:Rd H a u) (x:HOk P w H h):ObjOk P w H h a u:=by
 rcases r with r | ⟨o,r⟩
 ·exact x a u r
 ·obtain ⟨_,q⟩:=x a _ r
  exact q
def Mut:Option HO→Prop
 | some (.lst _)=>True
 | some (.dK _)=>True
 | some (.dT _)=>True
 | some (.set _ _)=>True
 | some (.ins _ _ _)=>True
 | some (.ext _)=>True
 | _=>False
section
variable {P:Program} {w:World} {H:Hp} {h h':Heap} {x e:Addr} {o':HO}
theorem HOk.write (ok:HOk P w H h) (mu:Mut (H x)) (he:e=x∨H e=some (.own x)) (k:∀ b u,b≠e→h.get? b=some u→h'.get? b=some u) (heo:∃ u,h'.get? e=some u)
  (new:ObjOk P w (upd H x o') h' x o'):HOk P w (upd H x o') h':=fun b u q=>by
 have nown:∀ c y,H c=some (.own y)→c≠x:=fun c y r z=>by subst z; rw [r] at mu; exact mu
 have ntup:∀ c xs,H c=some (.tup xs)→c≠x:=fun c xs r z=>by subst z; rw [r] at mu; exact mu
 by_cases hb:b=x
 ·subst hb; rw [upd_same] at q; cases q; exact new
 ·rw [upd_ne hb] at q
  by_cases hbe:b=e
  ·have q':H b=some (.own x):=by
    rcases he with z | z
    ·exact absurd (hbe.trans z) hb
    ·rw [hbe]; exact z
   rw [q] at q'; cases q'
   obtain ⟨v,hv⟩:=heo
   exact ⟨v,by rw [hbe]; exact hv⟩
  ·refine (ok b u q).stay (fun c v hc r=>k c v ?_ r) (fun c r=>by rw [upd_ne (nown c b r)]; exact r) fun c xs r=>by rw [upd_ne (ntup c xs r)]; exact r
   rcases hc with rfl | hc
   ·exact hbe
   ·rintro rfl
    rcases he with z | z
    ·exact nown c b hc z
    ·rw [hc] at z; cases z; exact hb rfl
end
structure Un (fs ex:List Addr) (H H':Hp) (h h':Heap):Prop where
 keep:∀ b o,h.get? b=some o→H b=none→b ∉ fs→b ∉ ex→h'.get? b=some o
 slot:∀ b o,h.get? b=some o→H b=none→b∈fs→b ∉ ex→∃ sl,h'.get? b=some { o with slots:=sl }
 free:∀ b o,h.get? b=some o→H b=none→b ∉ ex→H' b=none
 there:∀ b o,h.get? b=some o→b ∉ ex→∃ o',h'.get? b=some o'
 tups:∀ b xs,H b=some (.tup xs)→H' b=some (.tup xs)
 frzs:∀ b o u,H b=some (.frz o u)→H' b=some (.frz o u)
 tbls:∀ b ps,H b=some (.tbl ps)→∃ more,H' b=some (.tbl (ps++more))
section
variable {fs fs' ex ex':List Addr} {H H1 H2:Hp} {h h1 h2 h':Heap} {a x e:Addr} {o:HO}
theorem Un.any (u:Un fs ex H H1 h h1) {b:Addr} {ob:Obj} (q:h.get? b=some ob) (n:H b=none) (hx:b ∉ ex):∃ sl,h1.get? b=some { ob with slots:=sl }:=by
 by_cases hb:b∈fs
 ·exact u.slot b ob q n hb hx
 ·exact ⟨ob.slots,u.keep b ob q n hb hx⟩
theorem Un.kept (k:∀ b u,h.get? b=some u→h'.get? b=some u):Un fs ex H H h h' :=
 ⟨fun b ob q _ _ _=>k b ob q,fun b ob q _ _ _=>⟨ob.slots,k b ob q⟩,fun _ _ _ n _=>n,fun b ob q _=>⟨ob,k b ob q⟩,fun _ _ q=>q,fun _ _ _ q=>q,fun _ ps q=>⟨#[],by rw [q]; simp⟩⟩
theorem Un.refl:Un fs ex H H h h:=Un.kept fun _ _ q=>q
theorem Un.laid (k:∀ b u,h.get? b=some u→h'.get? b=some u) (hp:h.objs.size≤a) (hn:H a=none):Un fs ex H (upd H a o) h h' where
 keep:=fun b u q _ _ _=>k b u q
 slot:=fun b u q _ _ _=>⟨u.slots,k b u q⟩
 free:=fun b u q n _=>by rw [upd_ne (Nat.ne_of_lt (Nat.lt_of_lt_of_le (Heap.lt_size q) hp))]; exact n
 there:=fun b u q _=>⟨u,k b u q⟩
 tups:=fun b xs q=>by rw [upd_ne (ne_of_none q hn)]; exact q
 frzs:=fun b u xs q=>by rw [upd_ne (ne_of_none q hn)]; exact q
 tbls:=fun b ps q=>⟨#[],by rw [upd_ne (ne_of_none q hn),q]; simp⟩
theorem Un.write (mu:Mut (H x)) (he:e=x∨H e=some (.own x)) (k:∀ b u,b≠e→h.get? b=some u→h'.get? b=some u) (heo:∃ u,h'.get? e=some u):Un fs ex H (upd H x o) h h':=by
 have hx:∀ b,H b=none→b≠x:=fun b n z=>by subst z; rw [n] at mu; exact mu
 have hb:∀ b,H b=none→b≠e:=fun b n z=>by
  subst z
  rcases he with r | r
  ·exact hx b n r
  ·rw [n] at r; cases r
 have hm:∀ b u,H b=some u→¬ Mut (some u)→b≠x:=fun b u q nm z=>by subst z; rw [q] at mu; exact nm mu
 refine ⟨fun b u q n _ _=>k b u (hb b n) q,fun b u q n _ _=>⟨u.slots,k b u (hb b n) q⟩,fun b u q n _=>by rw [upd_ne (hx b n)]; exact n,fun b u q _=>?_,
  fun b xs q=>by rw [upd_ne (hm b _ q fun z=>z)]; exact q,fun b u xs q=>by rw [upd_ne (hm b _ q fun z=>z)]; exact q,fun b ps q=>⟨#[],by rw [upd_ne (hm b _ q fun z=>z),q]; simp⟩⟩
 by_cases hbe:b=e
 ·subst hbe; exact heo
 ·exact ⟨u,k b u hbe q⟩
end
def trk (h:Heap) (H:Hp):List Addr:=(List.range h.objs.size).filter fun a=>(H a).isSome
def hidT (h:Heap) (H:Hp):Heap:=PySem.W.hideAll h (trk h H)
theorem hidT_size (h:Heap) (H:Hp):(hidT h H).objs.size=h.objs.size:=PySem.W.hideAll_size _ _
theorem hidT_get {h:Heap} {H:Hp} {b:Addr} {o:Obj} (e:h.get? b=some o) (n:H b=none):(hidT h H).get? b=some o :=
 PySem.W.hideAll_get _ e fun hm=>by
  have q:(H b).isSome=true:=(List.mem_filter.mp hm).2
  rw [n] at q; simp at q
theorem of_hidT {h:Heap} {H:Hp} {b:Addr} {o:Obj} (e:(hidT h H).get? b=some o):h.get? b=some o∧H b=none:=by
 have e':h.get? b=some o:=PySem.W.of_hideAll (trk h H) e
 refine ⟨e',?_⟩
 cases q:H b with
 | none=>rfl
 | some x =>
  have hm:b∈trk h H:=List.mem_filter.mpr ⟨List.mem_range.mpr (Heap.lt_size e'),by simp [q]⟩
  have z:(hidT h H).get? b=none:=PySem.W.hideAll_none (trk h H) hm
  rw [z] at e; cases e
end L2
namespace L2
open PySem PySem.Spec PyProof.Rows
structure Mod (K:PySem.W.Frag) (mg:Str→Option Value) (base:Heap):Prop where
 kin:K.In base
 glob:base.Ns mainGlobals mg
 blt:∃ mb,base.Ns builtinsNs mb∧∀ x:Str,x≠"__name__"→mb x=bootBuiltins x
 nolimit:base.NoLimit
structure Cx where
 prog:Program
 w:World
 K:PySem.W.Frag
 mg:Str→Option Value
 base:Heap
 A:Around
 N:List Str
 s_0:Shared
 H_0:Hp
 env:Env
 outer:List Env
 stack:List Env
 ex:List Addr
 fn:Str→Bool
 calm:Bool
 pn:List (Addr×Obj)
 xe:Value→Shared→Prop
def frs (l:List Env):List Addr:=l.filterMap (·.frame)
abbrev Cx.fs (X:Cx):List Addr:=frs X.outer
def Vis (sc:Scope) (x:Str):Prop:=sc.names.lookup x=some .local∨sc.names.lookup x=some .cell∨sc.names.lookup x=some .free
def Loc (sc:Scope) (x:Str):Prop:=sc.names.lookup x=some .local∨sc.names.lookup x=some .cell
def Look (env:Env) (h:Heap) (m:Str→Option Value) (x:Str) (u:Value):Prop :=
 (env.kindOf x=some .local∧m x=some u)∨((env.kindOf x=some .cell∨env.kindOf x=some .free)∧∃ c,env.cells.lookup x=some c∧h.IsCell c (some u))
structure Cx.Ok (X:Cx):Prop where
 mod:Mod X.K X.mg X.base
 kind:X.env.scope.kind=.function
 glob:X.env.globals=mainGlobals
 blt:X.env.builtins=builtinsNs
 above:X.s_0.heap.objs.size≤X.env.locals
 inj:∀ x y c,X.env.cells.lookup x=some c→X.env.cells.lookup y=some c→x=y
 has:∀ x,(X.env.kindOf x=some .cell∨X.env.kindOf x=some .free)→∃ c,X.env.cells.lookup x=some c
 cab:∀ x c,X.fn x=true→X.env.cells.lookup x=some c→X.s_0.heap.objs.size≤c
 hd:X.calm=true→X.A.handled=none
 frames:X.A.frames=some X.stack
 stk:X.stack=X.outer∨(X.stack=X.env::X.outer∧X.env.frame=some X.env.locals)
 exf:∀ b∈X.ex,b≠X.env.locals∧∀ x c,X.env.cells.lookup x=some c→c≠b
 bs:∀ b o,X.base.get? b=some o→X.s_0.heap.get? b=some o∧X.H_0 b=none
 bsz:X.base.objs.size≤X.s_0.heap.objs.size
 noex:∀ b o,X.base.get? b=some o→b ∉ X.ex
 exfs:∀ b∈X.ex,b ∉ X.fs
 funs:X.s_0.heap.FunFrames X.base X.outer
 frf:∀ b∈X.fs,X.H_0 b=none
structure Inv (X:Cx) (pins:List (Addr×Obj)) (σ:List (Option V)) (H:Hp) (s:Shared):Prop where
 ok:X.Ok
 os:s.os=X.s_0.os
 bare:AllBare s.gens
 base:Un X.fs X.ex X.H_0 H X.s_0.heap s.heap
 loc:∃ m,s.heap.Ns X.env.locals m∧∀ (i:Nat) (x:Str) (v:V),X.N[i]?=some x→σ[i]?=some (some v)→Vis X.env.scope x→∃ u,RelV v u∧Look X.env s.heap m x u
 cell:∀ x c,X.env.cells.lookup x=some c→∃ v,s.heap.IsCell c v
 free:H X.env.locals=none
 freeC:∀ x c,X.env.cells.lookup x=some c→H c=none
 pin:∀ p∈X.pn++pins,s.heap.get? p.1=some p.2∧H p.1=none∧p.1≠X.env.locals∧p.1 ∉ X.fs∧∀ v,p.2.data≠.cell v
 hok:HOk X.prog X.w H s.heap
 len:σ.length=X.N.length
section
variable {X:Cx} {pins:List (Addr×Obj)} {σ:List (Option V)} {H H':Hp} {s:Shared} {h':Heap}
theorem Cx.Ok.nofr (ok:X.Ok) {b:Addr} {o:Obj} (e:X.base.get? b=some o):b ∉ X.fs:=fun hb=>by
 have:=(ok.funs.mem hb).1
 rw [e] at this; cases this
theorem Inv.bs (I:Inv X pins σ H s):∀ b o,X.base.get? b=some o→s.heap.get? b=some o∧H b=none:=fun b o e =>
 ⟨I.base.keep b o (I.ok.bs b o e).1 (I.ok.bs b o e).2 (I.ok.nofr e) (I.ok.noex b o e),I.base.free b o (I.ok.bs b o e).1 (I.ok.bs b o e).2 (I.ok.noex b o e)⟩
theorem Inv.bk (I:Inv X pins σ H s):∀ b o,X.base.get? b=some o→s.heap.get? b=some o:=fun b o e=>(I.bs b o e).1
theorem Inv.mod (I:Inv X pins σ H s):Mod X.K X.mg X.base:=I.ok.mod
theorem Inv.kIn (I:Inv X pins σ H s):X.K.In s.heap:=I.ok.mod.kin.keeps I.bk
theorem Inv.lt (I:Inv X pins σ H s):X.env.locals < s.heap.objs.size:=let ⟨_,hn,_⟩:=I.loc; hn.lt
theorem Inv.sz (I:Inv X pins σ H s):X.s_0.heap.objs.size≤s.heap.objs.size:=Nat.le_trans I.ok.above (Nat.le_of_lt I.lt)
theorem Inv.nofs (I:Inv X pins σ H s) {a:Addr} (h:s.heap.objs.size≤a):a ∉ X.fs:=fun hb=>by
 obtain ⟨_,o,ho,_⟩:=I.ok.funs.mem hb
 exact absurd (Nat.lt_of_lt_of_le (Heap.lt_size ho) (Nat.le_trans I.sz h)) (Nat.lt_irrefl _)
theorem Inv.cne (I:Inv X pins σ H s):∀ x c,X.env.cells.lookup x=some c→c≠X.env.locals:=fun x c e z=>by
 obtain ⟨v,o,ho,hd⟩:=I.cell x c e
 obtain ⟨m,⟨o',es,ep,ho',hd',_⟩,_⟩:=I.loc
 rw [z,ho'] at ho; cases ho; rw [hd'] at hd; cases hd
theorem Inv.funs (I:Inv X pins σ H s):s.heap.FunFrames X.base X.outer:=by
 have all:∀ (l:List Env),(∀ b∈frs l,b∈X.fs)→X.s_0.heap.FunFrames X.base l→s.heap.FunFrames X.base l:=by
  intro l
  induction l with
  | nil=>intro _ _; trivial
  | cons env r ih =>
   intro hs hl
   obtain ⟨hk,⟨L,o,hf,hn,ho,hd⟩,hr⟩:=hl
   have hL:L∈X.fs:=hs L (by unfold frs; rw [List.filterMap_cons,hf]; exact List.mem_cons_self)
   obtain ⟨sl,e⟩:=I.base.slot L o ho (I.ok.frf L hL) hL fun z=>I.ok.exfs L z hL
   exact ⟨hk,⟨L,_,hf,hn,e,hd⟩,ih (fun b hb=>hs b (by unfold frs; rw [List.filterMap_cons,hf]; exact List.mem_cons_of_mem _ hb)) hr⟩
 exact all X.outer (fun _ hb=>hb) I.ok.funs
theorem Inv.stack (I:Inv X pins σ H s):s.heap.FunFrames X.base X.stack:=by
 rcases I.ok.stk with e | ⟨e,hf⟩
 ·rw [e]; exact I.funs
 ·rw [e]
  obtain ⟨m,hn,_⟩:=I.loc
  refine .cons (by rw [I.ok.kind]; decide) hf hn ?_ I.funs
  exact Heap.get?_none_of_le (Nat.le_trans I.ok.bsz I.ok.above)
theorem Inv.stkSub (I:Inv X pins σ H s):∀ b∈frs X.stack,b∈X.env.locals::X.fs:=fun b hb=>by
 rcases I.ok.stk with e | ⟨e,hf⟩
 ·rw [e] at hb; exact List.mem_cons_of_mem _ hb
 ·rw [e] at hb
  unfold frs at hb
  rw [List.filterMap_cons,hf] at hb
  exact hb
theorem Inv.stkFree (I:Inv X pins σ H s):∀ b∈frs X.stack,H b=none:=fun b hb=>by
 rcases List.mem_cons.mp (I.stkSub b hb) with e | hb
 ·rw [e]; exact I.free
 ·obtain ⟨_,o,ho,_⟩:=I.ok.funs.mem hb
  exact I.base.free b o ho (I.ok.frf b hb) fun z=>I.ok.exfs b z hb
theorem Inv.step {g':Array GenState} {t':Nat} {d':Drawn} {ch:List Addr} (I:Inv X pins σ H s)
  (hch:∀ b∈ch,(b∈X.ex∨X.s_0.heap.objs.size≤b)∧b≠X.env.locals∧(∀ x c,X.env.cells.lookup x=some c→c≠b)∧∀ p∈X.pn++pins,p.1≠b)
  (keep:∀ b o,b≠X.env.locals→b ∉ X.fs→b ∉ ch→s.heap.get? b=some o→H b=none→h'.get? b=some o)
  (slot:∀ b o,b≠X.env.locals→b∈X.fs→b ∉ ch→s.heap.get? b=some o→H b=none→∃ sl,h'.get? b=some { o with slots:=sl }) (free:∀ b o,b ∉ ch→s.heap.get? b=some o→H b=none→H' b=none)
  (there:∀ b o,b ∉ ch→s.heap.get? b=some o→∃ o',h'.get? b=some o')
  (tups:∀ b xs,H b=some (.tup xs)→H' b=some (.tup xs)) (frzs:∀ b o u,H b=some (.frz o u)→H' b=some (.frz o u)) (tbls:∀ b ps,H b=some (.tbl ps)→∃ more,H' b=some (.tbl (ps++more)))
  (ns:∀ m,s.heap.Ns X.env.locals m→h'.Ns X.env.locals m) (hok:HOk X.prog X.w H' h') (hg:AllBare g') :
  Inv X pins σ H' { s with heap:=h',gens:=g',drawn:=d',toks:=t' }:=by
 have neL:∀ b o,X.s_0.heap.get? b=some o→b≠X.env.locals:=fun b o e=>Nat.ne_of_lt (Nat.lt_of_lt_of_le (Heap.lt_size e) I.ok.above)
 have neC:∀ b o,X.s_0.heap.get? b=some o→b ∉ X.ex→b ∉ ch:=fun b o e hx hb=>by
  rcases (hch b hb).1 with z | z
  ·exact hx z
  ·exact absurd (Nat.lt_of_lt_of_le (Heap.lt_size e) z) (Nat.lt_irrefl _)
 have cellK:∀ x c,X.env.cells.lookup x=some c→∀ v,s.heap.IsCell c v→h'.IsCell c v:=fun x c e v ⟨o,ho,hd⟩=>by
  have nch:c ∉ ch:=fun z=>(hch c z).2.2.1 x c e rfl
  by_cases hc:c∈X.fs
  ·obtain ⟨sl,q⟩:=slot c o (I.cne x c e) hc nch ho (I.freeC x c e)
   exact ⟨_,q,hd⟩
  ·exact ⟨o,keep c o (I.cne x c e) hc nch ho (I.freeC x c e),hd⟩
 refine ⟨I.ok,I.os,hg,⟨fun b o e n hb hx=>?_,fun b o e n hb hx=>?_,fun b o e n hx=>?_,fun b o e hx=>?_,fun b xs e=>tups b xs (I.base.tups b xs e),fun b o xs e=>frzs b o xs (I.base.frzs b o xs e),fun b ps e=>?_⟩,?_,fun x c e=>?_,?_,fun x c e=>?_,fun p hp=>?_,hok,I.len⟩
 ·exact keep b o (neL b o e) hb (neC b o e hx) (I.base.keep b o e n hb hx) (I.base.free b o e n hx)
 ·obtain ⟨sl,e1⟩:=I.base.slot b o e n hb hx
  obtain ⟨sl',e2⟩:=slot b _ (neL b o e) hb (neC b o e hx) e1 (I.base.free b o e n hx)
  exact ⟨sl',e2⟩
 ·obtain ⟨o',e1⟩:=I.base.there b o e hx
  exact free b o' (neC b o e hx) e1 (I.base.free b o e n hx)
 ·obtain ⟨o',e1⟩:=I.base.there b o e hx
  exact there b o' (neC b o e hx) e1
 ·obtain ⟨m1,e1⟩:=I.base.tbls b ps e
  obtain ⟨m2,e2⟩:=tbls b _ e1
  exact ⟨m1++m2,by rw [e2,Array.append_assoc]⟩
 ·obtain ⟨m,hn,hl⟩:=I.loc
  refine ⟨m,ns m hn,fun i x v e1 e2 e3=>?_⟩
  obtain ⟨u,r,l⟩:=hl i x v e1 e2 e3
  refine ⟨u,r,?_⟩
  rcases l with l | ⟨k,c,e,z⟩
  ·exact .inl l
  ·exact .inr ⟨k,c,e,cellK x c e _ z⟩
 ·obtain ⟨v,z⟩:=I.cell x c e
  exact ⟨v,cellK x c e v z⟩
 ·obtain ⟨m,⟨o,_,_,ho,_⟩,_⟩:=I.loc
  exact free _ o (fun z=>(hch _ z).2.1 rfl) ho I.free
 ·obtain ⟨v,o,ho,hd⟩:=I.cell x c e
  exact free c o (fun z=>(hch c z).2.2.1 x c e rfl) ho (I.freeC x c e)
 ·obtain ⟨e,n,ne,nf,d⟩:=I.pin p hp
  have nch:p.1 ∉ ch:=fun z=>(hch p.1 z).2.2.2 p hp rfl
  exact ⟨keep p.1 p.2 ne nf nch e n,free p.1 p.2 nch e n,ne,nf,d⟩
theorem Inv.un {t':Nat} (I:Inv X pins σ H s) (u:Un X.fs [] H H' s.heap h') (hok:HOk X.prog X.w H' h'):Inv X pins σ H' { s with heap:=h',toks:=t' }:=by
 obtain ⟨m,⟨o,es,ep,ho,r⟩,_⟩:=id I.loc
 obtain ⟨sl,hL⟩:=u.any ho I.free (by simp)
 exact I.step (g':=s.gens) (d':=s.drawn) (ch:=[]) (fun _ z=>nomatch z) (fun b o _ hb _ e n=>u.keep b o e n hb (by simp)) (fun b o _ hb _ e n=>u.slot b o e n hb (by simp)) (fun b o _ e n=>u.free b o e n (by simp)) (fun b o _ e=>u.there b o e (by simp)) u.tups u.frzs u.tbls (fun m' hm=>by
  obtain ⟨o',es',ep',ho',r'⟩:=hm
  rw [ho] at ho'; cases ho'
  exact ⟨_,es',ep',hL,r'⟩) hok I.bare
theorem Inv.call {g':Array GenState} {t':Nat} {d':Drawn} {ch:List Addr} (I:Inv X pins σ H s) (u:Un (frs X.stack) ch H H' s.heap h') (hok:HOk X.prog X.w H' h') (hg:AllBare g')
  (hch:∀ b∈ch,(b∈X.ex∨X.s_0.heap.objs.size≤b)∧b≠X.env.locals∧(∀ x c,X.env.cells.lookup x=some c→c≠b)∧∀ p∈X.pn++pins,p.1≠b) :
  Inv X pins σ H' { s with heap:=h',gens:=g',drawn:=d',toks:=t' }:=by
 obtain ⟨m,⟨o,es,ep,ho,r⟩,_⟩:=id I.loc
 obtain ⟨sl,hL⟩:=u.any ho I.free fun z=>(hch _ z).2.1 rfl
 exact I.step (ch:=ch) hch (fun b o hL hb hc e n=>u.keep b o e n (fun z=>(List.mem_cons.mp (I.stkSub b z)).elim hL hb) hc) (fun b o _ _ hc e n=>u.any e n hc) (fun b o hc e n=>u.free b o e n hc) (fun b o hc e=>u.there b o e hc) u.tups u.frzs u.tbls (fun m' hm=>by
  obtain ⟨o',es',ep',ho',r'⟩:=hm
  rw [ho] at ho'; cases ho'
  exact ⟨_,es',ep',hL,r'⟩) hok hg
theorem Inv.turned {t':Nat} {it:Addr} (I:Inv X pins σ H s) (k:∀ b o,b≠it→s.heap.get? b=some o→h'.get? b=some o) (hn:H it=none) (hL:it≠X.env.locals)
  (h1:it∈X.ex∨X.s_0.heap.objs.size≤it) (h2:∀ x c,X.env.cells.lookup x=some c→c≠it) (h3:∀ p∈X.pn++pins,p.1≠it):Inv X pins σ H { s with heap:=h',toks:=t' }:=by
 have nit:∀ b u,H b=some u→b≠it:=fun b u e z=>by rw [z,hn] at e; cases e
 refine I.step (g':=s.gens) (d':=s.drawn) (ch:=[it]) (fun b hb=>?_) (fun b o _ _ hc e _=>k b o (fun z=>hc (by simp [z])) e) (fun b o _ _ hc e _=>⟨o.slots,k b o (fun z=>hc (by simp [z])) e⟩) (fun _ _ _ _ n=>n)
  (fun b o hc e=>⟨o,k b o (fun z=>hc (by simp [z])) e⟩) (fun _ _ e=>e) (fun _ _ _ e=>e) (fun b ps e=>⟨#[],by rw [e]; simp⟩) (fun m hm=>?_) (fun b u e=>?_) I.bare
 ·have e:b=it:=by simpa using hb
  subst e
  exact ⟨h1,hL,h2,h3⟩
 ·obtain ⟨o,es,ep,ho,r⟩:=hm
  exact ⟨o,es,ep,k _ o (Ne.symm hL) ho,r⟩
 ·refine (I.hok b u e).stay (fun c v hc q=>k c v ?_ q) (fun _ q=>q) fun _ _ q=>q
  rcases hc with z | z
  ·rw [z]; exact nit b u e
  ·exact nit c _ z
theorem Inv.tok (I:Inv X pins σ H s) (t:Nat):Inv X pins σ H { s with toks:=t }:=I.un (h':=s.heap) (t':=t) Un.refl I.hok
theorem Inv.kept {t':Nat} (I:Inv X pins σ H s) (k:∀ b u,s.heap.get? b=some u→h'.get? b=some u):Inv X pins σ H { s with heap:=h',toks:=t' }:=I.un (Un.kept k) (I.hok.kept k)
theorem Inv.laid {a:Addr} {o:HO} {t':Nat} (I:Inv X pins σ H s) (k:∀ b u,s.heap.get? b=some u→h'.get? b=some u) (hp:s.heap.objs.size≤a) (new:ObjOk X.prog X.w (upd H a o) h' a o) :
  Inv X pins σ (upd H a o) { s with heap:=h',toks:=t' }:=I.un (Un.laid k hp (I.hok.fresh hp)) (I.hok.laid k hp new)
theorem Inv.write {x e:Addr} {o:HO} {t':Nat} (I:Inv X pins σ H s) (mu:Mut (H x)) (he:e=x∨H e=some (.own x)) (k:∀ b u,b≠e→s.heap.get? b=some u→h'.get? b=some u) (heo:∃ u,h'.get? e=some u)
  (new:ObjOk X.prog X.w (upd H x o) h' x o):Inv X pins σ (upd H x o) { s with heap:=h',toks:=t' }:=I.un (Un.write mu he k heo) (I.hok.write mu he k heo new)
theorem Inv.weak {σ':List (Option V)} (I:Inv X pins σ H s) (hl:σ'.length=σ.length) (w:∀ (i:Nat) v,σ'[i]?=some (some v)→σ[i]?=some (some v)):Inv X pins σ' H s :=
 ⟨I.ok,I.os,I.bare,I.base,let ⟨m,hn,hl'⟩:=I.loc; ⟨m,hn,fun i x v e1 e2 e3=>hl' i x v e1 (w i v e2) e3⟩,I.cell,I.free,I.freeC,I.pin,I.hok,hl.trans I.len⟩
theorem Inv.pins_of {pins':List (Addr×Obj)} (I:Inv X pins σ H s) (h:∀ p∈pins',s.heap.get? p.1=some p.2∧H p.1=none∧p.1≠X.env.locals∧p.1 ∉ X.fs∧∀ v,p.2.data≠.cell v):Inv X pins' σ H s :=
 ⟨I.ok,I.os,I.bare,I.base,I.loc,I.cell,I.free,I.freeC,fun p hp=>(List.mem_append.mp hp).elim (fun z=>I.pin p (List.mem_append_left _ z)) (h p),I.hok,I.len⟩
theorem nodup_ix {N:List Str} (hN:N.Nodup) {i j:Nat} {x:Str} (a:N[i]?=some x) (b:N[j]?=some x):i=j:=by
 obtain ⟨h1,e1⟩:=List.getElem?_eq_some_iff.mp a
 obtain ⟨h2,e2⟩:=List.getElem?_eq_some_iff.mp b
 exact (List.getElem_inj hN).mp (e1.trans e2.symm)
theorem store_ok2 {M:Model} {A:Around} {E:Value→Shared→Prop} {i:Nat} {x:Str} {v:V} {u:Value} {Q:Unit→Shared→Prop} (I:Inv X pins σ H s) (hN:X.N.Nodup) (hi:X.N[i]?=some x) (hx:Loc X.env.scope x) (r:RelV v u)
  (h:∀ s',Inv X pins (σ.set i (some v)) H s'→(∃ a,Heap.SameBut a s.heap s'.heap∧(a=X.env.locals∨X.env.cells.lookup x=some a))→Q () s') (hf:X.fn x=true∨X.env.scope.names.lookup x=some .local:=by first | exact .inl rfl | exact .inr rfl | assumption):wpAny M A (storeName X.env x u) Q E s:=by
 obtain ⟨m,hn,hl⟩:=id I.loc
 have hcls:(X.env.scope.kind==.class || (X.env.scope.kind==.module && X.env.locals != X.env.globals))=false:=by rw [I.ok.kind]; rfl
 have hiσ:i < σ.length:=by rw [I.len]; exact (List.getElem?_eq_some_iff.mp hi).1
 have cne:=I.cne
 have tracked:∀ {a:Addr} {h':Heap},(∃ o,s.heap.get? a=some o∧H a=none)→Heap.SameBut a s.heap h'→HOk X.prog X.w H h':=fun {a h'} ha hs b ob e=>by
  obtain ⟨_,_,hfree⟩:=ha
  refine (I.hok b ob e).stay (fun c w' hc q=>(hs.2 c ?_).trans q) (fun _ q=>q) fun _ _ q=>q
  rintro rfl
  rcases hc with rfl | hc
  ·rw [hfree] at e; cases e
  ·rw [hfree] at hc; cases hc
 rcases hx with hk | hk
 ·refine wpAny_storeName_local hk hn (fun h' hn' hs=>?_) hcls
  obtain ⟨oL,_,_,hoL,_⟩:=id hn
  refine h _ ⟨I.ok,I.os,I.bare,⟨fun b o e n hb hx=>?_,fun b o e n hb hx=>?_,I.base.free,fun b o e hx=>?_,I.base.tups,I.base.frzs,I.base.tbls⟩,⟨_,hn',fun j y v' e1 e2 e3=>?_⟩,fun y c e=>?_,I.free,I.freeC,fun p hp=>?_,tracked ⟨oL,hoL,I.free⟩ hs,by simpa using I.len⟩ ⟨_,hs,.inl rfl⟩
  ·exact (hs.2 b (Nat.ne_of_lt (Nat.lt_of_lt_of_le (Heap.lt_size e) I.ok.above))).trans (I.base.keep b o e n hb hx)
  ·obtain ⟨sl,e1⟩:=I.base.slot b o e n hb hx
   exact ⟨sl,(hs.2 b (Nat.ne_of_lt (Nat.lt_of_lt_of_le (Heap.lt_size e) I.ok.above))).trans e1⟩
  ·obtain ⟨o',e1⟩:=I.base.there b o e hx
   exact ⟨o',(hs.2 b (Nat.ne_of_lt (Nat.lt_of_lt_of_le (Heap.lt_size e) I.ok.above))).trans e1⟩
  ·by_cases hj:j=i
   ·subst hj
    rw [hi] at e1; cases e1
    rw [List.getElem?_set_self hiσ] at e2
    cases e2
    exact ⟨u,r,.inl ⟨hk,by simp⟩⟩
   ·rw [List.getElem?_set_ne (Ne.symm hj)] at e2
    obtain ⟨u',r',q⟩:=hl j y v' e1 e2 e3
    refine ⟨u',r',?_⟩
    rcases q with ⟨k,e⟩ | ⟨k,c,e,z⟩
    ·refine .inl ⟨k,?_⟩
     have:y≠x:=fun e=>hj (nodup_ix hN e1 (e ▸ hi))
     simp [this,e]
    ·exact .inr ⟨k,c,e,z.sameBut hs (cne y c e)⟩
  ·obtain ⟨w',z⟩:=I.cell y c e
   exact ⟨w',z.sameBut hs (cne y c e)⟩
  ·obtain ⟨e,n,ne,nf,d⟩:=I.pin p hp
   exact ⟨(hs.2 p.1 ne).trans e,n,ne,nf,d⟩
 ·have hfn:X.fn x=true:=by
   rcases hf with z | z
   ·exact z
   ·rw [z] at hk; cases hk
  obtain ⟨c,hc⟩:=I.ok.has x (.inl hk)
  obtain ⟨w',z⟩:=I.cell x c hc
  refine wpAny_storeName_cell I.ok.kind hk hc z (fun h' hc' hs=>?_)
  obtain ⟨oc,hoc,hocd⟩:=id z
  refine h { s with heap:=h' } ⟨I.ok,I.os,I.bare,⟨fun b o e n hb hx=>?_,fun b o e n hb hx=>?_,I.base.free,fun b o e hx=>?_,I.base.tups,I.base.frzs,I.base.tbls⟩,⟨m,hn.sameBut hs (Ne.symm (cne x c hc)),fun j y v' e1 e2 e3=>?_⟩,fun y c' e=>?_,I.free,I.freeC,fun p hp=>?_,tracked ⟨oc,hoc,I.freeC x c hc⟩ hs,by simpa using I.len⟩ ⟨c,hs,.inr hc⟩
  ·exact (hs.2 b (Nat.ne_of_lt (Nat.lt_of_lt_of_le (Heap.lt_size e) (I.ok.cab x c hfn hc)))).trans (I.base.keep b o e n hb hx)
  ·obtain ⟨sl,e1⟩:=I.base.slot b o e n hb hx
   exact ⟨sl,(hs.2 b (Nat.ne_of_lt (Nat.lt_of_lt_of_le (Heap.lt_size e) (I.ok.cab x c hfn hc)))).trans e1⟩
  ·obtain ⟨o',e1⟩:=I.base.there b o e hx
   exact ⟨o',(hs.2 b (Nat.ne_of_lt (Nat.lt_of_lt_of_le (Heap.lt_size e) (I.ok.cab x c hfn hc)))).trans e1⟩
  ·by_cases hj:j=i
   ·subst hj
    rw [hi] at e1; cases e1
    rw [List.getElem?_set_self hiσ] at e2
    cases e2
    exact ⟨u,r,.inr ⟨.inl hk,c,hc,hc'⟩⟩
   ·rw [List.getElem?_set_ne (Ne.symm hj)] at e2
    obtain ⟨u',r',q⟩:=hl j y v' e1 e2 e3
    refine ⟨u',r',?_⟩
    rcases q with q | ⟨k,c',e,z'⟩
    ·exact .inl q
    ·refine .inr ⟨k,c',e,z'.sameBut hs ?_⟩
     rintro rfl
     exact hj (nodup_ix hN e1 (I.ok.inj _ _ _ e hc ▸ hi))
  ·by_cases hcc:c'=c
   ·subst hcc; exact ⟨_,hc'⟩
   ·obtain ⟨w2,z2⟩:=I.cell y c' e
    exact ⟨w2,z2.sameBut hs hcc⟩
  ·obtain ⟨e,n,ne,nf,d⟩:=I.pin p hp
   refine ⟨(hs.2 p.1 ?_).trans e,n,ne,nf,d⟩
   intro q
   rw [q,hoc] at e
   have q':oc=p.2:=Option.some.inj e
   exact d w' (by rw [←q']; exact hocd)
theorem store_ok {M:Model} {A:Around} {E:Value→Shared→Prop} {i:Nat} {x:Str} {v:V} {u:Value} {Q:Unit→Shared→Prop} (I:Inv X pins σ H s) (hN:X.N.Nodup) (hi:X.N[i]?=some x) (hx:Loc X.env.scope x) (r:RelV v u)
  (h:∀ s',Inv X pins (σ.set i (some v)) H s'→Q () s') (hf:X.fn x=true∨X.env.scope.names.lookup x=some .local:=by first | exact .inl rfl | exact .inr rfl | assumption):wpAny M A (storeName X.env x u) Q E s :=
 store_ok2 I hN hi hx r (fun s' I' _=>h s' I') hf
theorem Inv.call' {s':Shared} {ch:List Addr} (I:Inv X pins σ H s) (ho:s'.os=s.os) (u:Un (frs X.stack) ch H H' s.heap s'.heap) (hok:HOk X.prog X.w H' s'.heap) (hg:AllBare s'.gens)
  (hch:∀ b∈ch,(b∈X.ex∨X.s_0.heap.objs.size≤b)∧b≠X.env.locals∧(∀ x c,X.env.cells.lookup x=some c→c≠b)∧∀ p∈X.pn++pins,p.1≠b):Inv X pins σ H' s':=by
 obtain ⟨h',g',d',t',o'⟩:=s'
 have e:o'=s.os:=ho
 subst e
 exact I.call (g':=g') (t':=t') (d':=d') u hok hg hch
end
abbrev XK:=Value→Option Addr→Hp→Prop
abbrev St:=List (Option V)
abbrev VK:=V→Hp→Prop
abbrev TE:=St→Hp→VK→Prop
abbrev TT:=St→Hp→(Bool→Hp→Prop)→Prop
abbrev TA:=St→Hp→(List V→Hp→Prop)→Prop
structure Ends where
 nx:St→Hp→Prop
 rt:VK
 bk:St→Hp→Prop:=fun _ _=>False
 ct:St→Hp→Prop:=fun _ _=>False
abbrev TS:=Ends→St→Hp→Prop
def EP (X:Cx) (pins:List (Addr×Obj)) (σ:St) (Q:VK) (u:Value) (s':Shared):Prop:=∃ v H',Inv X pins σ H' s'∧RelV v u∧Q v H'
def TP (X:Cx) (pins:List (Addr×Obj)) (σ:St) (Q:Bool→Hp→Prop) (b:Bool) (s':Shared):Prop:=∃ H',Inv X pins σ H' s'∧Q b H'
def AP (X:Cx) (pins:List (Addr×Obj)) (σ:St) (Q:List V→Hp→Prop) (us:List Value) (s':Shared):Prop:=∃ vs H',Inv X pins σ H' s'∧Vals vs us∧Q vs H'
def SP (X:Cx) (pins:List (Addr×Obj)) (D:Ends) (f:Flow) (s':Shared):Prop :=
 match f with
 | .next=>∃ σ' H',Inv X pins σ' H' s'∧D.nx σ' H'
 | .brk=>∃ σ' H',Inv X pins σ' H' s'∧D.bk σ' H'
 | .cont=>∃ σ' H',Inv X pins σ' H' s'∧D.ct σ' H'
 | .ret u=>∃ v σ' H',Inv X pins σ' H' s'∧RelV v u∧D.rt v H'
def PE (X:Cx) (e:Expr) (t:TE):Prop :=
 ∀ (pins:List (Addr×Obj)) (s:Shared) (σ:St) (H:Hp) (Q:VK),Inv X pins σ H s→t σ H Q→wpAny (model X.prog X.w) X.A (eval e X.env) (EP X pins σ Q) X.xe s
def PT (X:Cx) (e:Expr) (t:TT):Prop :=
 ∀ (pins:List (Addr×Obj)) (s:Shared) (σ:St) (H:Hp) (Q:Bool→Hp→Prop),Inv X pins σ H s→t σ H Q→wpAny (model X.prog X.w) X.A (isTrue e X.env (eval e X.env)) (TP X pins σ Q) X.xe s
def PW (X:Cx) (e:Expr) (t:TT):Prop :=
 ∀ (whole:Sem Value) (pins:List (Addr×Obj)) (s:Shared) (σ:St) (H:Hp) (Q:Bool→Hp→Prop),Inv X pins σ H s→t σ H Q→wpAny (model X.prog X.w) X.A (isTrue e X.env whole) (TP X pins σ Q) X.xe s
theorem PW.pt {X:Cx} {e:Expr} {t:TT} (h:PW X e t):PT X e t:=h _
def PA (X:Cx) (es:List Expr) (t:TA):Prop :=
 ∀ (pos:Pos) (pins:List (Addr×Obj)) (s:Shared) (σ:St) (H:Hp) (Q:List V→Hp→Prop),Inv X pins σ H s→t σ H Q→wpAny (model X.prog X.w) X.A (spliced (backTo pos (starEach es X.env))) (AP X pins σ Q) X.xe s
def PS (X:Cx) (st:Stmt) (t:TS):Prop :=
 ∀ (pins:List (Addr×Obj)) (s:Shared) (σ:St) (H:Hp) (D:Ends),Inv X pins σ H s→t D σ H→wpAny (model X.prog X.w) X.A (exec st X.env) (SP X pins D) X.xe s
def PSs (X:Cx) (st:List Stmt) (t:TS):Prop :=
 ∀ (pins:List (Addr×Obj)) (s:Shared) (σ:St) (H:Hp) (D:Ends),Inv X pins σ H s→t D σ H→wpAny (model X.prog X.w) X.A (execs st X.env) (SP X pins D) X.xe s
theorem thn {α:Type} {t:Sem α} {Q Q':α→Shared→Prop} {M:Model} {A:Around} {E:Value→Shared→Prop} {s:Shared} (h:wpAny M A t Q E s) (hQ:∀ a s,Q a s→Q' a s):wpAny M A t Q' E s:=wpAny_mono h hQ fun _ _ x=>x
end L2
namespace L2
open PySem PySem.Spec PyProof.Rows
section
variable {X:Cx}
def tVar (i:Nat):TE:=fun σ H Q=>∃ v,σ[i]?=some (some v)∧Q v H
def tC (v:V):TE:=fun _ H Q=>Q v H
theorem pe_var {i:Nat} {x:Str} {pos:Pos} (hN:X.N[i]?=some x) (hv:Vis X.env.scope x) (hd:(x==("__debug__":Str))=false:=by decide) (hcd:(x==("__classdict__":Str))=false:=by decide):PE X (.Name x pos) (tVar i):=by
 intro pins s σ H Q I h
 obtain ⟨v,e,h⟩:=h
 obtain ⟨m,hn,hl⟩:=I.loc
 obtain ⟨u,r,l⟩:=hl i x v hN e hv
 have fin:EP X pins σ Q u s:=⟨v,H,I,r,h⟩
 rcases l with ⟨hk,hm⟩ | ⟨hk,c,hc,hcell⟩
 ·exact wpAny_Name (wpAny_loadName_local I.ok.kind hk hn hm fin) hd
 ·rcases hk with hk | hk
  ·exact wpAny_Name (wpAny_loadName_cell I.ok.kind hk hc hcell fin) hd
  ·exact wpAny_Name (wpAny_loadName_free I.ok.kind hk hc hcell fin hcd) hd
theorem pe_int {i j pos}:PE X (.Constant (.int i) j pos) (tC (.int i)):=fun _ _ _ H _ I h=>wpAny_Constant_int ⟨.int i,H,I.tok _,⟨_,rfl⟩,h⟩
theorem pe_bl {b j pos}:PE X (.Constant (.bool b) j pos) (tC (.bl b)):=fun _ _ _ H _ I h=>Constant_bool ⟨.bl b,H,I,rfl,h⟩
theorem pe_non {j pos}:PE X (.Constant .none j pos) (tC .non):=fun _ _ _ H _ I h=>Constant_none ⟨.non,H,I,rfl,h⟩
theorem pe_str {x j pos}:PE X (.Constant (.str x) j pos) (tC (.str x)):=fun _ _ _ H _ I h=>Calls.Constant_str ⟨.str x,H,I.tok _,⟨_,rfl⟩,h⟩
def Gl (X:Cx) (x:Str):Prop:=X.env.kindOf x=some .globalImplicit
theorem ld_glob {E:Value→Shared→Prop} {pins:List (Addr×Obj)} {s:Shared} {σ:St} {H:Hp} {x:Str} {u:Value} {pos:Pos} {Q:Value→Shared→Prop} (I:Inv X pins σ H s) (hg:Gl X x) (hm:X.mg x=some u) (h:Q u s)
  (hd:(x==("__debug__":Str))=false:=by decide):wpAny (model X.prog X.w) X.A (eval (.Name x pos) X.env) Q E s :=
 Calls.Name_function_global I.ok.kind hg (Calls.loadGlobal_global (by rw [I.ok.glob]; exact I.mod.glob.keeps I.bk) hm h) hd
theorem ld_blt {E:Value→Shared→Prop} {pins:List (Addr×Obj)} {s:Shared} {σ:St} {H:Hp} {x:Str} {u:Value} {pos:Pos} {Q:Value→Shared→Prop} (I:Inv X pins σ H s) (hg:Gl X x) (hm:X.mg x=none) (hv:bootBuiltins x=some u) (h:Q u s)
  (hn:x≠"__name__":=by decide) (hd:(x==("__debug__":Str))=false:=by decide):wpAny (model X.prog X.w) X.A (eval (.Name x pos) X.env) Q E s:=by
 obtain ⟨mb,h1,h2⟩:=I.mod.blt
 exact Calls.Name_function_global I.ok.kind hg (Calls.loadGlobal_builtin (by rw [I.ok.glob]; exact I.mod.glob.keeps I.bk) hm (by rw [I.ok.blt]; exact h1.keeps I.bk) ((h2 x hn).trans hv) h) hd
theorem pe_glob {x:Str} {v:V} {u:Value} {pos:Pos} (hg:Gl X x) (hm:X.mg x=some u) (r:RelV v u) (hd:(x==("__debug__":Str))=false:=by decide):PE X (.Name x pos) (tC v) :=
 fun _ _ _ H _ I h=>ld_glob I hg hm ⟨v,H,I,r,h⟩ hd
variable {a b:Expr} {ta tb:TE} {pos:Pos}
def PC (X:Cx) (op:CmpOp) (a b:Expr) (t:TE):Prop :=
 ∀ (pins:List (Addr×Obj)) (s:Shared) (σ:St) (H:Hp) (Q:VK),Inv X pins σ H s→t σ H Q →
  wpAny (model X.prog X.w) X.A (eval a X.env) (fun v s₁=>wpAny (model X.prog X.w) X.A (eval b X.env) (fun u s₂=>wpAny (model X.prog X.w) X.A (compareOp op v u) (EP X pins σ Q) X.xe s₂) X.xe s₁) X.xe s
def tB (t:TE):TT:=fun σ H Q=>t σ H fun x H1=>∃ c,x=.bl c∧Q c H1
theorem pe_cmp {op:CmpOp} {t:TE} (h:PC X op a b t) (h1:behindInMarks op b=false:=by first | exact nobehind _ (by decide) (by decide) | rfl):PE X (.Compare a [op] [b] pos) t:=fun pins s σ H Q I hw=>wpAny_Compare1 (h pins s σ H Q I hw) h1
theorem pt_cmp {op:CmpOp} {t:TE} (h:PC X op a b t) (h1:behindInMarks op b=false:=by first | exact nobehind _ (by decide) (by decide) | rfl):PT X (.Compare a [op] [b] pos) (tB t):=by
 intro pins s σ H Q I hw
 refine wpAny_isTrue_Compare1 (thn (h pins s σ H _ I hw) fun v s1 h1=>thn h1 fun u s2 h2=>thn h2 fun c s3 ⟨x,H1,I1,r1,q1⟩=>?_) h1
 obtain ⟨d,rfl,q⟩:=q1
 cases r1
 exact wpAny_truthy_bool ⟨H1,I1,q⟩
theorem pt_val {e:Expr} {t:TE} (h:PE X e t) (he:∀ whole,isTrue e X.env whole=(do let v ← whole; standAt e.pos; holding [v] (truthy v)):=by intro _; rfl):PT X e (tB t):=by
 intro pins s σ H Q I hw
 refine isTrue_plain (thn (h pins s σ H _ I hw) fun v s1 ⟨x,H1,I1,r1,q1⟩=>?_) (he _)
 obtain ⟨d,rfl,q⟩:=q1
 cases r1
 exact wpAny_truthy_bool ⟨H1,I1,q⟩
variable {tA tB':TT} {rest:List Expr}
def tAnd (t u:TT):TT:=fun σ H Q=>t σ H fun c H1=>if c=true then u σ H1 Q else Q false H1
def tOr (t u:TT):TT:=fun σ H Q=>t σ H fun c H1=>if c=true then Q true H1 else u σ H1 Q
def tNot (t:TT):TT:=fun σ H Q=>t σ H fun c H1=>Q (!c) H1
theorem pw_and1 (ha:PT X a tA):PW X (.BoolOp .And [a] pos) tA:=by
 intro wh pins s σ H Q I h
 refine isTrue_and (thn (ha pins s σ H Q I h) fun c s1 e=>?_)
 cases c with
 | true=>exact isTrue_and_nil e
 | false=>exact e
theorem pw_or1 (ha:PT X a tA):PW X (.BoolOp .Or [a] pos) tA:=by
 intro wh pins s σ H Q I h
 refine isTrue_or (thn (ha pins s σ H Q I h) fun c s1 e=>?_)
 cases c with
 | false=>exact isTrue_or_nil e
 | true=>exact e
theorem pw_and (ha:PT X a tA) (hb:PW X (.BoolOp .And (b::rest) pos) tB'):PW X (.BoolOp .And (a::b::rest) pos) (tAnd tA tB'):=by
 intro wh pins s σ H Q I h
 refine isTrue_and (thn (ha pins s σ H _ I h) fun c s1 ⟨H1,I1,q1⟩=>?_)
 cases c with
 | true=>exact hb wh pins s1 σ H1 Q I1 q1
 | false=>exact ⟨H1,I1,q1⟩
theorem pw_or (ha:PT X a tA) (hb:PW X (.BoolOp .Or (b::rest) pos) tB'):PW X (.BoolOp .Or (a::b::rest) pos) (tOr tA tB'):=by
 intro wh pins s σ H Q I h
 refine isTrue_or (thn (ha pins s σ H _ I h) fun c s1 ⟨H1,I1,q1⟩=>?_)
 cases c with
 | true=>exact ⟨H1,I1,q1⟩
 | false=>exact hb wh pins s1 σ H1 Q I1 q1
theorem pt_not (ha:PT X a tA):PT X (.UnaryOp .Not a pos) (tNot tA):=by
 intro pins s σ H Q I h
 exact isTrue_not (ha pins s σ H (fun c H1=>Q (!c) H1) I h)
def tAndV (ta tb:TE):TE:=fun σ H Q=>ta σ H fun x H1=>∃ c,x=.bl c∧if c=true then tb σ H1 Q else Q (.bl false) H1
def tOrV (ta tb:TE):TE:=fun σ H Q=>ta σ H fun x H1=>∃ c,x=.bl c∧if c=true then Q (.bl true) H1 else tb σ H1 Q
def tNotV (ta:TE):TE:=fun σ H Q=>ta σ H fun x H1=>∃ c,x=.bl c∧Q (.bl (!c)) H1
theorem pe_one {op} {t:TE} (h:PE X a t):PE X (.BoolOp op [a] pos) t:=fun pins s σ H Q I hw=>BoolOp_one (h pins s σ H Q I hw)
theorem pe_and (ha:PE X a ta) (hb:PE X (.BoolOp .And (b::rest) pos) tb):PE X (.BoolOp .And (a::b::rest) pos) (tAndV ta tb):=by
 intro pins s σ H Q I h
 refine BoolOp_and (thn (ha pins s σ H _ I h) fun v s1 ⟨x,H1,I1,r1,q1⟩=>?_)
 obtain ⟨c,rfl,q1⟩:=q1
 cases r1
 refine wpAny_truthy_bool ?_
 cases c with
 | true=>exact hb pins s1 σ H1 Q I1 q1
 | false=>exact ⟨.bl false,H1,I1,rfl,q1⟩
theorem pe_or (ha:PE X a ta) (hb:PE X (.BoolOp .Or (b::rest) pos) tb):PE X (.BoolOp .Or (a::b::rest) pos) (tOrV ta tb):=by
 intro pins s σ H Q I h
 refine BoolOp_or (thn (ha pins s σ H _ I h) fun v s1 ⟨x,H1,I1,r1,q1⟩=>?_)
 obtain ⟨c,rfl,q1⟩:=q1
 cases r1
 refine wpAny_truthy_bool ?_
 cases c with
 | false=>exact hb pins s1 σ H1 Q I1 q1
 | true=>exact ⟨.bl true,H1,I1,rfl,q1⟩
theorem pe_not (ha:PE X a ta):PE X (.UnaryOp .Not a pos) (tNotV ta):=by
 intro pins s σ H Q I h
 refine UnaryOp_ (thn (ha pins s σ H _ I h) fun v s1 ⟨x,H1,I1,r1,q1⟩=>?_)
 obtain ⟨c,rfl,q1⟩:=q1
 cases r1
 exact not_of (wpAny_truthy_bool ⟨.bl (!c),H1,I1,rfl,q1⟩)
end
end L2
namespace L2
open PySem PySem.Spec PyProof.Rows
def SqL (K:PySem.W.Frag) (H:Hp) (a:Addr) (xs:List V):Prop :=
 Rd H a (.lst xs) ∨
  ∃ (o:Obj) (its:Array Value) (n:Nat),K.lookup a=some o∧o.cls=.type "list"∧o.dict=none∧o.data=.seq its n∧its.size≤sizeLine∧Vals xs its.toList
def SqT (K:PySem.W.Frag) (H:Hp) (a:Addr) (xs:List V):Prop :=
 Rd H a (.tup xs) ∨
  ∃ (o:Obj) (its:Array Value) (n:Nat),K.lookup a=some o∧o.cls=.type "tuple"∧o.data=.seq its n∧its.size≤sizeLine∧Vals xs its.toList
def absV:Value→Option V
 | .none=>some .non
 | .bool b=>some (.bl b)
 | .int i _=>some (.int i)
 | .str x _=>some (.str x)
 | .bytes b _=>some (.byt b)
 | .float b _=>some (.flt b)
 | .ref a=>some (.ref a)
 | .type n=>some (.ty n)
 | _=>none
theorem RelV.abs {x:V} {u:Value} (r:RelV x u):absV u=some x:=by
 cases x with
 | non=>cases r; rfl
 | bl _=>cases r; rfl
 | int _=>obtain ⟨t,rfl⟩:=r; rfl
 | str _=>obtain ⟨t,rfl⟩:=r; rfl
 | byt _=>obtain ⟨t,rfl⟩:=r; rfl
 | flt _=>obtain ⟨t,rfl⟩:=r; rfl
 | ref _=>cases r; rfl
 | ty _=>cases r; rfl
theorem RelV.inj {x y:V} {u:Value} (r:RelV x u) (q:RelV y u):x=y:=Option.some.inj (r.abs.symm.trans q.abs)
theorem Vals.inj:∀ {xs ys:List V} {us:List Value},Vals xs us→Vals ys us→xs=ys
 | _,_,_,.nil,.nil=>rfl
 | _,_,_,.cons r t,.cons r' t'=>by rw [r.inj r',Vals.inj t t']
section
variable {X:Cx} {pins:List (Addr×Obj)} {σ:St} {H:Hp} {s:Shared} {a:Addr} {xs ys:List V}
theorem SqL.of {K:PySem.W.Frag} (h:H a=some (.lst xs)):SqL K H a xs:=.inl (.inl h)
theorem SqT.of {K:PySem.W.Frag} (h:H a=some (.tup xs)):SqT K H a xs:=.inl (.inl h)
theorem Inv.list (I:Inv X pins σ H s) (h:SqL X.K H a xs):∃ its:List Value,Vals xs its∧PlainL s.heap a its.toArray∧xs.length≤sizeLine:=by
 rcases h with h | ⟨o,its,n,hk,hc,hd,hs,hz,r⟩
 ·obtain ⟨z,its,n,r,e⟩:=h.ok I.hok
  exact ⟨its,r,⟨_,n,e,rfl,rfl,rfl⟩,z⟩
 ·refine ⟨its.toList,r,⟨o,n,I.kIn a o hk,hc,hd,by simpa using hs⟩,?_⟩
  have e:=r.length
  simp only [Array.length_toList] at e
  omega
theorem Inv.tuple (I:Inv X pins σ H s) (h:SqT X.K H a xs):∃ its:List Value,Vals xs its∧IsTup s.heap a its.toArray∧xs.length≤sizeLine:=by
 rcases h with h | ⟨o,its,n,hk,hc,hs,hz,r⟩
 ·obtain ⟨z,its,r,p⟩:=h.ok I.hok
  exact ⟨its,r,p,z⟩
 ·refine ⟨its.toList,r,⟨o,I.kIn a o hk,hc,n,by simpa using hs⟩,?_⟩
  have e:=r.length
  simp only [Array.length_toList] at e
  omega
theorem Inv.list_inj (I:Inv X pins σ H s) (h:SqL X.K H a xs) (h':SqL X.K H a ys):xs=ys:=by
 obtain ⟨its,r,⟨o,n,e,_,_,d⟩,_⟩:=I.list h
 obtain ⟨its',r',⟨o',n',e',_,_,d'⟩,_⟩:=I.list h'
 rw [e] at e'; cases e'
 rw [d] at d'
 injection d' with d1 _
 have:its=its':=by simpa using congrArg Array.toList d1
 subst this
 exact r.inj r'
theorem Inv.tuple_inj (I:Inv X pins σ H s) (h:SqT X.K H a xs) (h':SqT X.K H a ys):xs=ys:=by
 obtain ⟨its,r,⟨o,e,_,n,d⟩,_⟩:=I.tuple h
 obtain ⟨its',r',⟨o',e',_,n',d'⟩,_⟩:=I.tuple h'
 rw [e] at e'; cases e'
 rw [d] at d'
 injection d' with d1 _
 have:its=its':=by simpa using congrArg Array.toList d1
 subst this
 exact r.inj r'
end
abbrev Cx.wish (X:Cx) (E:Value→Shared→Prop):Cx:={ X with xe:=E }
abbrev Cx.nox (X:Cx):Cx:=X.wish fun _ _=>False
theorem Cx.Ok.wish {X:Cx} (ok:X.Ok) (E:Value→Shared→Prop):(X.wish E).Ok :=
 ⟨ok.mod,ok.kind,ok.glob,ok.blt,ok.above,ok.inj,ok.has,ok.cab,ok.hd,ok.frames,ok.stk,ok.exf,ok.bs,ok.bsz,ok.noex,ok.exfs,ok.funs,ok.frf⟩
theorem Cx.Ok.unwish {X:Cx} {E:Value→Shared→Prop} (ok:(X.wish E).Ok):X.Ok :=
 ⟨ok.mod,ok.kind,ok.glob,ok.blt,ok.above,ok.inj,ok.has,ok.cab,ok.hd,ok.frames,ok.stk,ok.exf,ok.bs,ok.bsz,ok.noex,ok.exfs,ok.funs,ok.frf⟩
section
variable {X:Cx} {pins:List (Addr×Obj)} {σ:St} {H:Hp} {s:Shared} {E:Value→Shared→Prop}
theorem Inv.wish (I:Inv X pins σ H s) (E:Value→Shared→Prop):Inv (X.wish E) pins σ H s:=⟨I.ok.wish E,I.os,I.bare,I.base,I.loc,I.cell,I.free,I.freeC,I.pin,I.hok,I.len⟩
theorem Inv.unwish (I:Inv (X.wish E) pins σ H s):Inv X pins σ H s:=⟨I.ok.unwish,I.os,I.bare,I.base,I.loc,I.cell,I.free,I.freeC,I.pin,I.hok,I.len⟩
theorem SP.unwish {D:Ends} {f:Flow} {s':Shared} (h:SP (X.wish E) pins D f s'):SP X pins D f s':=by
 cases f with
 | next=>obtain ⟨σ',H',I,q⟩:=h; exact ⟨σ',H',I.unwish,q⟩
 | brk=>obtain ⟨σ',H',I,q⟩:=h; exact ⟨σ',H',I.unwish,q⟩
 | cont=>obtain ⟨σ',H',I,q⟩:=h; exact ⟨σ',H',I.unwish,q⟩
 | ret u=>obtain ⟨v,σ',H',I,r,q⟩:=h; exact ⟨v,σ',H',I.unwish,r,q⟩
theorem PSs.nox {st:List Stmt} {t:TS} (h:PSs X.nox st t):PSs X st t:=fun pins s σ H D I hw =>
 wpAny_mono (h pins s σ H D (I.wish _) hw) (fun _ _ q=>q.unwish) fun _ _ z=>False.elim z
end
section
variable {X:Cx} {st:Stmt} {rest:List Stmt} {t u:TS} {e:Expr} {te:TE} {pos:Pos}
def tNext:TS:=fun D σ H=>D.nx σ H
def tSeq (t u:TS):TS:=fun D σ H=>t { D with nx:=u D } σ H
theorem pss_nil:PSs X [] tNext:=fun _ _ σ H _ I h=>wpAny_execs_nil ⟨σ,H,I,h⟩
theorem pss_cons (h1:PS X st t) (h2:PSs X rest u):PSs X (st::rest) (tSeq t u):=by
 intro pins s σ H D I h
 refine wpAny_execs_cons (thn (h1 pins s σ H { D with nx:=u D } I h) fun f s1 q=>?_)
 cases f with
 | next =>
  obtain ⟨σ',H',I',q⟩:=q
  exact h2 pins s1 σ' H' D I' q
 | ret v=>exact q
 | brk=>exact q
 | cont=>exact q
theorem pss_one (h1:PS X st t):PSs X [st] t:=by
 intro pins s σ H D I h
 refine wpAny_execs_cons (thn (h1 pins s σ H D I h) fun f s1 q=>?_)
 cases f with
 | next=>exact wpAny_execs_nil q
 | ret v=>exact q
 | brk=>exact q
 | cont=>exact q
theorem Inv.quiet {pins:List (Addr×Obj)} {σ:St} {H:Hp} {s:Shared} (I:Inv X pins σ H s):interactive X.env=false:=by simp [interactive,I.ok.kind]
def tDrop (te:TE):TS:=fun D σ H=>te σ H fun _ H1=>D.nx σ H1
theorem ps_expr (he:PE X e te) (hs:swapsWith e none pos.line X.env=pure false:=by rfl):PS X (.Expr e pos) (tDrop te):=by
 intro pins s σ H D I h
 exact wpAny_Expr_any (thn (he pins s σ H _ I h) fun v s1 ⟨x,H1,I1,r1,q1⟩=>⟨σ,H1,I1,q1⟩) I.quiet hs
def tRet (te:TE):TS:=fun D σ H=>te σ H D.rt
theorem ps_ret (he:PE X e te):PS X (.Return (some e) pos) (tRet te):=by
 intro pins s σ H D I h
 exact wpAny_Return_some (thn (he pins s σ H _ I h) fun v s1 ⟨x,H1,I1,r1,q1⟩=>⟨x,σ,H1,I1,r1,q1⟩)
def tIfS (c:TT) (t u:TS):TS:=fun D σ H=>c σ H fun b H1=>if b=true then t D σ H1 else u D σ H1
theorem ps_if {c:Expr} {a b:List Stmt} {tc:TT} (hc:PT X c tc) (ha:PSs X a t) (hb:PSs X b u):PS X (.If c a b pos) (tIfS tc t u):=by
 intro pins s σ H D I h
 refine wpAny_If (thn (hc pins s σ H _ I h) fun d s1 ⟨H1,I1,q1⟩=>?_)
 cases d with
 | true=>exact ha pins s1 σ H1 D I1 q1
 | false=>exact hb pins s1 σ H1 D I1 q1
end
abbrev TG:=V→St→Hp→(St→Hp→Prop)→Prop
abbrev TGs:=List V→St→Hp→(St→Hp→Prop)→Prop
def PG (X:Cx) (target:Expr) (t:TG):Prop :=
 ∀ (pins:List (Addr×Obj)) (s:Shared) (σ:St) (H:Hp) (v:V) (u:Value) (Q:St→Hp→Prop),Inv X pins σ H s→RelV v u→t v σ H Q →
  wpAny (model X.prog X.w) X.A (assign target X.env u) (fun _ s'=>∃ σ' H',Inv X pins σ' H' s'∧Q σ' H') X.xe s
def PGs (X:Cx) (ts:List Expr) (t:TGs):Prop :=
 ∀ (pins:List (Addr×Obj)) (s:Shared) (σ:St) (H:Hp) (vs:List V) (us:List Value) (Q:St→Hp→Prop),Inv X pins σ H s→Vals vs us→t vs σ H Q →
  wpAny (model X.prog X.w) X.A (assignInOrder ((assignEach ts X.env).map (·.2)) us) (fun _ s'=>∃ σ' H',Inv X pins σ' H' s'∧Q σ' H') X.xe s
section
variable {X:Cx} {pos:Pos}
def gName (i:Nat):TG:=fun v σ H Q=>Q (σ.set i (some v)) H
theorem pg_name {i:Nat} {x:Str} (hN:X.N.Nodup) (hi:X.N[i]?=some x) (hx:Loc X.env.scope x) (hf:X.fn x=true∨X.env.scope.names.lookup x=some .local:=by first | exact .inl rfl | exact .inr rfl | assumption):PG X (.Name x pos) (gName i):=by
 intro pins s σ H v u Q I r h
 exact wpAny_assign_Name (store_ok I hN hi hx r (fun s' I'=>⟨_,H,I',h⟩) hf)
def gNil:TGs:=fun vs σ H Q=>vs=[]∧Q σ H
def gCons (t:TG) (u:TGs):TGs:=fun vs σ H Q=>∃ v r,vs=v::r∧t v σ H fun σ' H'=>u r σ' H' Q
theorem pgs_nil:PGs X [] gNil:=by
 intro pins s σ H vs us Q I r h
 obtain ⟨e,h⟩:=h
 subst e
 cases r
 exact assignInOrder_nil ⟨σ,H,I,h⟩
theorem pgs_cons {e:Expr} {es:List Expr} {t:TG} {u:TGs} (h1:PG X e t) (h2:PGs X es u)
  (hs:(assignEach (e::es) X.env).map (·.2)=assign e X.env::(assignEach es X.env).map (·.2):=by rfl):PGs X (e::es) (gCons t u):=by
 intro pins s σ H vs us Q I r h
 obtain ⟨v,vr,e1,h⟩:=h
 subst e1
 cases r with
 | cons r rr =>
  rw [hs]
  refine assignInOrder_cons (thn (h1 pins s σ H _ _ _ I r h) fun _ s1 ⟨σ1,H1,I1,q1⟩=>?_)
  exact h2 pins s1 σ1 H1 _ _ Q I1 rr q1
def gTup (K:PySem.W.Frag) (n:Nat) (t:TGs):TG:=fun v σ H Q=>∃ a xs,v=.ref a∧SqT K H a xs∧xs.length=n∧t xs σ H Q
theorem pg_tup {es:List Expr} {k:Nat} {t:TGs} {n:Nat} (hc:X.calm=true) (h:PGs X es t)
  (hn:(assignEach es X.env).length=n:=by rfl) (hst:(assignEach es X.env).findIdx? (·.1)=none:=by rfl):PG X (.Tuple es k pos) (gTup X.K n t):=by
 intro pins s σ H v u Q I r hw
 obtain ⟨a,xs,e1,hq,hl,hw⟩:=hw
 subst e1
 cases r
 obtain ⟨its,rv,ht,hz⟩:=I.tuple hq
 refine assign_Tuple_tuple (I.ok.hd hc) ht (by simp [hn,←hl,rv.length]) hst fun h' hx=>?_
 have I1:Inv X pins σ H { s with heap:=h' }:=I.kept (t':=s.toks) fun b o e=>hx b o (Nat.ne_of_lt (Heap.lt_size e)) e
 exact h pins _ σ H xs _ Q I1 (by simpa using rv) hw
def tAsg (te:TE) (g:TG):TS:=fun D σ H=>te σ H fun x H1=>g x σ H1 D.nx
theorem ps_set {i:Nat} {x:Str} {e:Expr} {te:TE} {pos':Pos} (hN:X.N.Nodup) (hi:X.N[i]?=some x) (hx:Loc X.env.scope x) (he:PE X e te) (hs:swapsWith e (some (.Name x pos')) pos.line X.env=pure false:=by rfl) (hf:X.fn x=true∨X.env.scope.names.lookup x=some .local:=by first | exact .inl rfl | exact .inr rfl | assumption) :
  PS X (.Assign [.Name x pos'] e pos) (tAsg te (gName i)):=by
 intro pins s σ H D I h
 refine wpAny_Assign_Name (thn (he pins s σ H _ I h) fun v s1 ⟨y,H1,I1,r1,q1⟩=>?_) hs
 exact store_ok I1 hN hi hx r1 (fun s2 I2=>⟨_,H1,I2,q1⟩) hf
end
section
variable {X:Cx} {pos:Pos}
def tWhile (c:TT) (tb:TS):TS:=fun D σ H=>∃ W:Nat→St→Hp→Prop,(∃ m,W m σ H)∧∀ m σ H,W m σ H →
 c σ H fun b H1=>if b=true then ∃ N:St→Hp→Prop,(∀ σ' H',N σ' H'→∃ m',m' < m∧W m' σ' H')∧tb { D with nx:=N,ct:=N,bk:=D.nx } σ H1 else D.nx σ H1
theorem ps_while {c:Expr} {body:List Stmt} {tc:TT} {tb:TS} (hp:PassesOwn (model X.prog X.w) X.A X.env X.xe) (hc:PT X c tc) (hb:PSs X body tb):PS X (.While c body [] pos) (tWhile tc tb):=by
 intro pins s σ H D I h
 obtain ⟨W,⟨m0,w0⟩,turn⟩:=h
 refine wpAny_While (codeAny_whileLoop (fun n s'=>∃ σ' H',Inv X pins σ' H' s'∧W n σ' H') ?_ m0 ⟨σ,H,I,w0⟩)
 rintro n s1 ⟨σ1,H1,I1,w1⟩
 refine wpAny_passesOwn hp (thn (hc pins s1 σ1 H1 _ I1 (turn n σ1 H1 w1)) fun b s2 ⟨H2,I2,q2⟩=>?_)
 cases b with
 | true =>
  obtain ⟨N,hN,q2⟩:=q2
  rw [if_pos rfl]
  refine wpAny_passesOwn hp (thn (hb pins s2 σ1 H2 _ I2 q2) fun f s3 q3=>?_)
  cases f with
  | next =>
   obtain ⟨σ3,H3,I3,n3⟩:=q3
   obtain ⟨m',hm,w3⟩:=hN σ3 H3 n3
   exact ⟨m',hm,σ3,H3,I3,w3⟩
  | cont =>
   obtain ⟨σ3,H3,I3,n3⟩:=q3
   obtain ⟨m',hm,w3⟩:=hN σ3 H3 n3
   exact ⟨m',hm,σ3,H3,I3,w3⟩
  | brk=>exact q3
  | ret v=>exact q3
 | false =>
  rw [if_neg Bool.false_ne_true]
  exact wpAny_execs_nil ⟨σ1,H2,I2,q2⟩
end
structure It where
 go:Nat→Hp→Prop
 yld:Nat→Hp→V→Hp→Prop
 stop:Nat→Hp→Prop
def FpOk (X:Cx) (pins:List (Addr×Obj)) (H:Hp) (b:Addr):Prop :=
 H b=none∧b≠X.env.locals∧b ∉ X.fs∧(b∈X.ex∨X.s_0.heap.objs.size≤b)∧(∀ x c,X.env.cells.lookup x=some c→c≠b)∧∀ p∈X.pn++pins,p.1≠b
theorem Inv.fpOk {X:Cx} {pins:List (Addr×Obj)} {σ:St} {H H':Hp} {s:Shared} {b:Addr} (I:Inv X pins σ H s) (hb:s.heap.objs.size≤b) (hn:H' b=none):FpOk X pins H' b:=by
 refine ⟨hn,Nat.ne_of_gt (Nat.lt_of_lt_of_le I.lt hb),I.nofs hb,.inr (Nat.le_trans I.sz hb),fun x c e z=>?_,fun p hp z=>?_⟩
 ·obtain ⟨v,q⟩:=I.cell x c e
  exact absurd (Nat.lt_of_lt_of_le q.lt (by rw [z]; exact hb)) (Nat.lt_irrefl _)
 ·exact absurd (Nat.lt_of_lt_of_le (Heap.lt_size (I.pin p hp).1) (by rw [z]; exact hb)) (Nat.lt_irrefl _)
structure Turn (P:Program) (w:World) (K:PySem.W.Frag) (tg:Expr) (J:It) (fp:List Addr) (it:Addr) (tn:Nat→Heap→Prop):Prop where
 mem:it∈fp
 obj:∀ i h,tn i h→∀ b∈fp,∃ o,h.get? b=some o∧∀ v,o.data≠.cell v
 keep:∀ i h h',tn i h→(∀ b∈fp,∀ o,h.get? b=some o→h'.get? b=some o)→tn i h'
 item:∀ (X:Cx),X.prog=P→X.w=w→X.K=K→X.calm=true→∀ (i:Nat) (pins:List (Addr×Obj)) (s:Shared) (σ:St) (H:Hp) (E:Value→Shared→Prop),Inv X pins σ H s→(∀ b∈fp,FpOk X pins H b)→tn i s.heap→J.go i H →
  wpAny (model P w) X.A (pyNext (.ref it)) (fun r s1=>∃ u,r=some u ∧
   wpAny (model P w) X.A (letOwnedTupleGo tg (.ref it) u) (fun _ s2=>∃ x H',Inv X pins σ H' s2∧RelV x u∧J.yld i H x H'∧tn (i + 1) s2.heap∧∀ b∈fp,H' b=none) E s1) E s
 done:∀ (X:Cx),X.prog=P→X.w=w→X.K=K→X.calm=true→∀ (i:Nat) (pins:List (Addr×Obj)) (s:Shared) (σ:St) (H:Hp) (E:Value→Shared→Prop),Inv X pins σ H s→(∀ b∈fp,FpOk X pins H b)→tn i s.heap→J.stop i H →
  wpAny (model P w) X.A (pyNext (.ref it)) (fun r s1=>r=none∧Inv X pins σ H s1) E s
 self:∀ (A:Around) (i:Nat) (s:Shared) (Q:Value→Shared→Prop) (E:Value→Shared→Prop),tn i s.heap→Q (.ref it) s→wpAny (model P w) A (pyIter (.ref it)) Q E s
abbrev TI:=St→Hp→(It→Hp→Prop)→Prop
def PIE (X:Cx) (pins:List (Addr×Obj)) (σ:St) (tg:Expr) (R:It→Hp→Prop) (itv:Value) (s2:Shared):Prop :=
 ∃ (it:Addr) (fp:List Addr) (tn:Nat→Heap→Prop) (J:It) (H':Hp),itv=.ref it∧Inv X pins σ H' s2∧Turn X.prog X.w X.K tg J fp it tn∧tn 0 s2.heap∧(∀ b∈fp,FpOk X pins H' b)∧R J H'
def PI (X:Cx) (tg iter:Expr) (wi:TI):Prop :=
 ∀ (pins:List (Addr×Obj)) (s:Shared) (σ:St) (H:Hp) (R:It→Hp→Prop),Inv X pins σ H s→wi σ H R →
  wpAny (model X.prog X.w) X.A (eval iter X.env) (fun v s1=>wpAny (model X.prog X.w) X.A (pyIter v) (PIE X pins σ tg R) X.xe s1) X.xe s
theorem go_of {M:Model} {A:Around} {E:Value→Shared→Prop} {s:Shared} {tg:Expr} {it:Addr} {u:Value} {o:Obj} {n:String} {vs:Array Value} {Q:Unit→Shared→Prop} (ho:s.heap.get? it=some o) (hc:o.cls=.type n) (hd:o.data=.fields vs)
  (hn:["enumerate","zip","dict_itemiterator","dict_reverseitemiterator","odict_iterator","itertools.zip_longest","itertools.pairwise"].contains n=false) (hQ:Q () s):wpAny M A (letOwnedTupleGo tg (.ref it) u) Q E s:=by
 unfold letOwnedTupleGo
 cases tg <;> first
  | exact wpAny_pure hQ
  | (cases u <;> first
    | exact wpAny_pure hQ
    | (
     refine wpAny_bind (wpAny_load ho ?_)
     rw [hc,hd]
     show wpAny M A (if (["enumerate","zip","dict_itemiterator","dict_reverseitemiterator","odict_iterator","itertools.zip_longest","itertools.pairwise"].contains n && vs[0]?==some (rawInt _))=true then _ else _) Q E s
     rw [if_neg (by intro h; rw [hn,Bool.false_and] at h; cases h)]
     exact wpAny_pure hQ))
def Itl (K:PySem.W.Frag) (a:Addr):It :=
 ⟨fun i H=>∃ xs x,SqL K H a xs∧xs[i]?=some x,fun i H x H'=>H'=H∧∀ xs,SqL K H a xs→xs[i]?=some x,fun i H=>∃ xs,SqL K H a xs∧xs.length≤i⟩
def Itr (lo:Int) (n:Nat):It:=⟨fun i _=>i < n,fun i H x H'=>H'=H∧x=.int (lo + i),fun i _=>n≤i⟩
theorem turn_list {P:Program} {w:World} {K:PySem.W.Frag} {tg:Expr} (a it:Addr):Turn P w K tg (Itl K a) [it] it (fun i h=>h.IsListIter it a i) where
 mem:=by simp
 obj:=fun i h st b hb=>by
  have e:b=it:=by simpa using hb
  subst e
  obtain ⟨o,e,c,d⟩:=st
  exact ⟨o,e,fun v z=>by rw [d] at z; cases z⟩
 keep:=fun i h h' st k=>st.at fun o e=>k it (by simp) o e
 item:=by
  intro X hP hw hK hc i pins s σ H E I hf st hg
  subst hP hw hK
  obtain ⟨xs,x,hq,hx⟩:=hg
  obtain ⟨its,rv,p,hz⟩:=I.list hq
  obtain ⟨u,hu,ru⟩:=rv.get hx
  obtain ⟨f0,f1,f2,f3,f4,f5⟩:=hf it (by simp)
  refine wpAny_pyNext_list_item st p.isList (x:=u) (by simpa using hu) fun h' st' sb=>?_
  have I1:Inv X pins σ H { s with heap:=h' }:=I.turned (t':=s.toks) (fun b o hb e=>(sb.2 b hb).trans e) f0 f1 f3 f4 f5
  obtain ⟨o,e,c,d⟩:=id st'
  exact ⟨u,rfl,go_of (s:={ s with heap:=h' }) e c d (by decide) ⟨x,H,I1,ru,⟨rfl,fun ys hy=>by rw [I.list_inj hy hq]; exact hx⟩,st',fun b hb=>(hf b hb).1⟩⟩
 done:=by
  intro X hP hw hK hc i pins s σ H E I hf st hg
  subst hP hw hK
  obtain ⟨xs,hq,hx⟩:=hg
  obtain ⟨its,rv,p,hz⟩:=I.list hq
  obtain ⟨f0,f1,f2,f3,f4,f5⟩:=hf it (by simp)
  have hl:=rv.length
  exact wpAny_pyNext_list_end (I.ok.hd hc) st p.isList (by simp; omega) fun h' eb=>⟨rfl,I.turned (t':=s.toks) (fun b o hb e=>eb b o hb e) f0 f1 f3 f4 f5⟩
 self:=fun _ _ _ _ _ st h=>wpAny_pyIter_listiter st h
theorem turn_range {P:Program} {w:World} {K:PySem.W.Frag} {tg:Expr} (it:Addr) (lo:Int) (n:Nat):Turn P w K tg (Itr lo n) [it] it (fun i h=>IsRangeIter h it (lo + (i:Nat) * 1) ((n:Int) - (i:Nat)) 1) where
 mem:=by simp
 obj:=fun i h st b hb=>by
  have e:b=it:=by simpa using hb
  subst e
  exact ⟨_,st,fun v z=>by
   have z':Data.fields _=Data.cell v:=z
   cases z'⟩
 keep:=fun i h h' st k=>k it (by simp) _ st
 item:=by
  intro X hP hw hK hc i pins s σ H E I hf st hg
  subst hP hw hK
  obtain ⟨f0,f1,f2,f3,f4,f5⟩:=hf it (by simp)
  have W:=Walks.range (prog:=X.prog) (w:=X.w) (I.ok.hd hc) it lo 1 n
  refine W.item i s _ _ hg st fun v h' tk hv st' kk=>?_
  obtain ⟨t,rfl⟩:=hv
  have I1:Inv X pins σ H { s with heap:=h',toks:=tk }:=I.turned (fun b o hb e=>kk b o (by simpa using hb) e) f0 f1 f3 f4 f5
  refine ⟨_,rfl,go_of (s:={ s with heap:=h',toks:=tk }) (n:="range_iterator") st' rfl rfl (by decide) ⟨.int (lo + i),H,I1,⟨t,?_⟩,⟨rfl,rfl⟩,st',fun b hb=>(hf b hb).1⟩⟩
  rw [Int.mul_one]
 done:=by
  intro X hP hw hK hc i pins s σ H E I hf st hg
  subst hP hw hK
  obtain ⟨f0,f1,f2,f3,f4,f5⟩:=hf it (by simp)
  exact wpAny_pyNext_range_end (I.ok.hd hc) st (by have:n≤i:=hg; omega) fun h' eb=>⟨rfl,I.turned (t':=s.toks) (fun b o hb e=>eb b o hb e) f0 f1 f3 f4 f5⟩
 self:=fun _ _ _ _ _ st h=>wpAny_pyIter_rangeiter st h
end L2
namespace L2
open PySem PySem.Spec PyProof.Rows
section
variable {X:Cx} {tg:Expr}
def iList (K:PySem.W.Frag) (tl:TE):TI:=fun σ H R=>tl σ H fun x H1=>∃ a,x=.ref a∧(∃ xs,SqL K H1 a xs)∧R (Itl K a) H1
theorem pi_list {l:Expr} {tl:TE} (hl:PE X l tl):PI X tg l (iList X.K tl):=by
 intro pins s σ H R I h
 refine thn (hl pins s σ H _ I h) fun v s1 ⟨x,H1,I1,r1,q1⟩=>?_
 obtain ⟨a,e,⟨xs,hq⟩,q⟩:=q1
 subst e
 cases r1
 obtain ⟨its,rv,p,hz⟩:=I1.list hq
 refine wpAny_pyIter_list p.isList ?_
 refine ⟨s1.heap.objs.size,[s1.heap.objs.size],_,_,H1,rfl,I1.kept (t':=s1.toks) fun b o e=>Heap.get?_push_of_some _ e,turn_list a _,⟨_,Heap.get?_push_size _ rfl,rfl,rfl⟩,fun b hb=>?_,q⟩
 have e:b=s1.heap.objs.size:=by simpa using hb
 subst e
 exact I1.fpOk (Nat.le_refl _) (I1.hok.fresh (Nat.le_refl _))
theorem range_it {pins:List (Addr×Obj)} {σ:St} {H:Hp} {s:Shared} {R:It→Hp→Prop} {E:Value→Shared→Prop} {lo hi:Int} {t u v:Tok} {tk:Nat} (I:Inv X pins σ H s) (h1:-(2 ^ 62)≤lo) (h2:lo < 2 ^ 62) (h3:-(2 ^ 62)≤hi) (h4:hi < 2 ^ 62)
  (q:R (Itr lo (hi - lo).toNat) H):wpAny (model X.prog X.w) X.A (pyIter (.ref s.heap.objs.size)) (PIE X pins σ tg R) E { s with heap:=s.heap.push { cls:=.type "range",data:=.fields #[.int lo t,.int hi u,.int 1 v] },toks:=tk }:=by
 refine wpAny_pyIter_range (IsRange.new ..) (small_one h1 h2 h3 h4) ?_
 have I1:Inv X pins σ H { s with heap:=s.heap.push { cls:=.type "range",data:=.fields #[.int lo t,.int hi u,.int 1 v] },toks:=tk }:=I.kept fun b o e=>Heap.get?_push_of_some _ e
 refine ⟨(s.heap.push { cls:=.type "range",data:=.fields #[.int lo t,.int hi u,.int 1 v] }).objs.size,[(s.heap.push { cls:=.type "range",data:=.fields #[.int lo t,.int hi u,.int 1 v] }).objs.size],_,_,H,rfl,
  I1.kept (t':=tk) fun b o e=>Heap.get?_push_of_some _ e,turn_range _ lo (hi - lo).toNat,?_,fun b hb=>?_,q⟩
 ·have e1:lo + ((0:Nat):Int) * 1=lo:=by simp
  have e2:(((hi - lo).toNat:Nat):Int) - ((0:Nat):Int)=Builtin.Range.rangeSize lo hi 1:=by rw [rangeSize_one]; split <;> omega
  show IsRangeIter _ _ (lo + ((0:Nat):Int) * 1) ((((hi - lo).toNat:Nat):Int) - ((0:Nat):Int)) 1
  rw [e1,e2]
  exact Heap.get?_push_size _ rfl
 ·have e:b=(s.heap.push { cls:=.type "range",data:=.fields #[.int lo t,.int hi u,.int 1 v] }).objs.size:=by simpa using hb
  subst e
  exact I1.fpOk (Nat.le_refl _) (I1.hok.fresh (Nat.le_refl _))
def iRng1 (ta:TA):TI:=fun σ H R=>ta σ H fun vs H1=>∃ j:Int,vs=[.int j]∧-(2 ^ 62)≤j∧j < 2 ^ 62∧R (Itr 0 j.toNat) H1
theorem pi_range1 {a:Expr} {ta:TA} {p pos:Pos} (hg:Gl X "range") (hm:X.mg "range"=none) (ha:PA X [a] ta) (hs:starEach [a] X.env=[(false,eval a X.env)]:=by rfl):PI X tg (.Call (.Name "range" p) [a] [] pos) (iRng1 ta):=by
 intro pins s σ H R I h
 refine Call_ (ld_blt I hg hm boot_range (PyProof.Rows.callWith_type1 (thn (ha pos pins s σ H _ I h) fun us s1 ⟨vs,H1,I1,r1,q1⟩=>?_) hs rfl))
 obtain ⟨j,e,q1,q2,q⟩:=q1
 subst e
 cases r1 with
 | cons r rr =>
  cases rr
  obtain ⟨t,rfl⟩:=r
  exact call_range_1 (range_it I1 (by omega) (by omega) q1 q2 (by simpa using q))
def tFor (wi:TI) (g:TG) (tb:TS):TS:=fun D σ H=>wi σ H fun J H1=>∃ W:Nat→Nat→St→Hp→Prop,(∃ m,W 0 m σ H1)∧∀ i m σ H,W i m σ H →
 (J.stop i H∧D.nx σ H)∨(J.go i H∧∃ N:St→Hp→Prop,(∀ σ' H',N σ' H'→∃ m',m' < m∧W (i + 1) m' σ' H')∧∀ x H',J.yld i H x H'→g x σ H' fun σ2 H2=>tb { D with nx:=N,ct:=N,bk:=D.nx } σ2 H2)
def pinsAt (fp:List Addr) (h:Heap):List (Addr×Obj):=fp.filterMap fun b=>(h.get? b).map fun o=>(b,o)
theorem mem_pinsAt {fp:List Addr} {h:Heap} {b:Addr} {o:Obj} (hb:b∈fp) (e:h.get? b=some o):(b,o)∈pinsAt fp h:=List.mem_filterMap.mpr ⟨b,hb,by rw [e]; rfl⟩
theorem of_pinsAt {fp:List Addr} {h:Heap} {p:Addr×Obj} (hp:p∈pinsAt fp h):p.1∈fp∧h.get? p.1=some p.2:=by
 obtain ⟨b,hb,e⟩:=List.mem_filterMap.mp hp
 cases q:h.get? b with
 | none=>rw [q] at e; cases e
 | some o =>
  rw [q] at e
  have e':(b,o)=p:=Option.some.inj e
  subst e'
  exact ⟨hb,q⟩
theorem Inv.pinned {pins:List (Addr×Obj)} {σ:St} {H:Hp} {s:Shared} {fp:List Addr} (I:Inv X pins σ H s) (hf:∀ b∈fp,FpOk X pins H b) (ho:∀ b∈fp,∃ o,s.heap.get? b=some o∧∀ v,o.data≠.cell v):Inv X (pins++pinsAt fp s.heap) σ H s :=
 I.pins_of fun p hp=>(List.mem_append.mp hp).elim (fun z=>I.pin p (List.mem_append_right _ z)) fun z=>by
  obtain ⟨hb,e⟩:=of_pinsAt z
  obtain ⟨f0,f1,f2,_⟩:=hf p.1 hb
  obtain ⟨o,e',d⟩:=ho p.1 hb
  rw [e] at e'; cases e'
  exact ⟨e,f0,f1,f2,d⟩
theorem Inv.unpinned {pins pl:List (Addr×Obj)} {σ:St} {H:Hp} {s:Shared} (I:Inv X (pins++pl) σ H s):Inv X pins σ H s:=I.pins_of fun p hp=>I.pin p (List.mem_append_right _ (List.mem_append_left _ hp))
theorem ps_for {iter:Expr} {body:List Stmt} {wi:TI} {g:TG} {tb:TS} {pos:Pos} (hp:PassesOwn (model X.prog X.w) X.A X.env X.xe) (hc:X.calm=true) (hi:PI X tg iter wi) (hg:PG X tg g) (hb:PSs X body tb)
  (hs:∀ x,foldedSetIterable iter X.env x=pure x:=by intro _; rfl):PS X (.For tg iter body [] pos) (tFor wi g tb):=by
 intro pins s σ H D I h
 refine wpAny_For (thn (hi pins s σ H _ I h) fun v s1 h1=>thn h1 fun itv s2 h2=>?_) hs
 obtain ⟨it,fp,tn,J,H2,e,I2,T,st2,f2,W,⟨m0,w0⟩,turn⟩:=h2
 subst e
 have stat:∀ {H':Hp},(∀ b∈fp,H' b=none)→∀ b∈fp,FpOk X pins H' b:=fun hn b hb=>⟨hn b hb,(f2 b hb).2⟩
 refine codeAny_forLoop_any (fun n s'=>∃ i σ' H',Inv X pins σ' H' s'∧tn i s'.heap∧(∀ b∈fp,H' b=none)∧W i n σ' H') ?_ m0 ⟨0,σ,H2,I2,st2,fun b hb=>(f2 b hb).1,w0⟩
 rintro n s3 ⟨i,σ3,H3,I3,st3,fr3,w3⟩
 rcases turn i n σ3 H3 w3 with ⟨stop,qn⟩ | ⟨go,N,hN,step⟩
 ·refine wpAny_passesOwn hp (thn (T.done X rfl rfl rfl hc i pins s3 σ3 H3 X.xe I3 (stat fr3) st3 stop) fun r s4 ⟨hr,I4⟩=>?_)
  subst hr
  exact wpAny_execs_nil ⟨σ3,H3,I4,qn⟩
 ·refine wpAny_passesOwn hp (thn (T.item X rfl rfl rfl hc i pins s3 σ3 H3 X.xe I3 (stat fr3) st3 go) fun r s4 ⟨u,hr,h4⟩=>?_)
  subst hr
  refine wpAny_passesOwn hp (thn h4 fun _ s5 ⟨x,H5,I5,r5,y5,st5,fr5⟩=>?_)
  have I5':=I5.pinned (stat fr5) (T.obj _ _ st5)
  refine wpAny_passesOwn hp (thn (hg _ s5 σ3 H5 x u _ I5' r5 (step x H5 y5)) fun _ s6 ⟨σ6,H6,I6,q6⟩=>?_)
  refine wpAny_passesOwn hp (thn (hb _ s6 σ6 H6 _ I6 q6) fun f s7 q7=>?_)
  have again:∀ {σ7:St} {H7:Hp},Inv X (pins++pinsAt fp s5.heap) σ7 H7 s7→N σ7 H7→∃ m,m < n∧∃ i σ' H',Inv X pins σ' H' s7∧tn i s7.heap∧(∀ b∈fp,H' b=none)∧W i m σ' H':=fun {σ7 H7} I7 n7=>by
   obtain ⟨m',hm,w7⟩:=hN σ7 H7 n7
   refine ⟨m',hm,i + 1,σ7,H7,I7.unpinned,T.keep _ _ _ st5 fun b hb o e=>(I7.pin (b,o) (List.mem_append_right _ (List.mem_append_right _ (mem_pinsAt hb e)))).1,fun b hb=>?_,w7⟩
   obtain ⟨o,e,d⟩:=T.obj _ _ st5 b hb
   exact (I7.pin (b,o) (List.mem_append_right _ (List.mem_append_right _ (mem_pinsAt hb e)))).2.1
  cases f with
  | next=>obtain ⟨σ7,H7,I7,n7⟩:=q7; exact again I7 n7
  | cont=>obtain ⟨σ7,H7,I7,n7⟩:=q7; exact again I7 n7
  | brk=>obtain ⟨σ7,H7,I7,q7⟩:=q7; exact ⟨σ7,H7,I7.unpinned,q7⟩
  | ret v=>obtain ⟨x7,σ7,H7,I7,r7,q7⟩:=q7; exact ⟨x7,σ7,H7,I7.unpinned,r7,q7⟩
end
theorem for_list {K:PySem.W.Frag} {a:Addr} {xs:List V} {g:TG} {tb:TS} {D:Ends} {σ:St} {H:Hp} (Pv:Nat→St→Hp→Prop) (h0:Pv 0 σ H) (hl:∀ i σ H,i≤xs.length→Pv i σ H→SqL K H a xs)
  (hs:∀ i x σ H,xs[i]?=some x→Pv i σ H→g x σ H fun σ2 H2=>tb { D with nx:=Pv (i + 1),ct:=Pv (i + 1),bk:=D.nx } σ2 H2) (hd:∀ σ H,Pv xs.length σ H→D.nx σ H) :
  ∃ W:Nat→Nat→St→Hp→Prop,(∃ m,W 0 m σ H)∧∀ i m σ H,W i m σ H →
   ((Itl K a).stop i H∧D.nx σ H)∨((Itl K a).go i H∧∃ N:St→Hp→Prop,(∀ σ' H',N σ' H'→∃ m',m' < m∧W (i + 1) m' σ' H')∧∀ x H',(Itl K a).yld i H x H'→g x σ H' fun σ2 H2=>tb { D with nx:=N,ct:=N,bk:=D.nx } σ2 H2):=by
 refine ⟨fun i m σ H=>m=xs.length - i∧i≤xs.length∧Pv i σ H,⟨xs.length,by simp,Nat.zero_le _,h0⟩,?_⟩
 rintro i m σ H ⟨rfl,hi,p⟩
 have q:=hl i σ H hi p
 by_cases hlt:i < xs.length
 ·refine .inr ⟨⟨xs,xs[i],q,by simp [hlt]⟩,Pv (i + 1),fun σ' H' p'=>⟨xs.length - (i + 1),by omega,rfl,hlt,p'⟩,fun x H' y=>?_⟩
  obtain ⟨e,y⟩:=y
  subst e
  exact hs i x σ _ (y xs q) p
 ·have e:i=xs.length:=by omega
  subst e
  exact .inl ⟨⟨xs,q,Nat.le_refl _⟩,hd σ H p⟩
theorem for_range {lo:Int} {n:Nat} {g:TG} {tb:TS} {D:Ends} {σ:St} {H:Hp} (Pv:Nat→St→Hp→Prop) (h0:Pv 0 σ H)
  (hs:∀ i σ H,i < n→Pv i σ H→g (.int (lo + i)) σ H fun σ2 H2=>tb { D with nx:=Pv (i + 1),ct:=Pv (i + 1),bk:=D.nx } σ2 H2) (hd:∀ σ H,Pv n σ H→D.nx σ H) :
  ∃ W:Nat→Nat→St→Hp→Prop,(∃ m,W 0 m σ H)∧∀ i m σ H,W i m σ H →
   ((Itr lo n).stop i H∧D.nx σ H)∨((Itr lo n).go i H∧∃ N:St→Hp→Prop,(∀ σ' H',N σ' H'→∃ m',m' < m∧W (i + 1) m' σ' H')∧∀ x H',(Itr lo n).yld i H x H'→g x σ H' fun σ2 H2=>tb { D with nx:=N,ct:=N,bk:=D.nx } σ2 H2):=by
 refine ⟨fun i m σ H=>m=n - i∧i≤n∧Pv i σ H,⟨n,by simp,Nat.zero_le _,h0⟩,?_⟩
 rintro i m σ H ⟨rfl,hi,p⟩
 by_cases hlt:i < n
 ·refine .inr ⟨hlt,Pv (i + 1),fun σ' H' p'=>⟨n - (i + 1),by omega,rfl,hlt,p'⟩,fun x H' y=>?_⟩
  obtain ⟨e,y⟩:=y
  subst e y
  exact hs i σ _ hlt p
 ·have e:i=n:=by omega
  subst e
  exact .inl ⟨Nat.le_refl _,hd σ H p⟩
theorem while_by {c:TT} {tb:TS} {D:Ends} {σ:St} {H:Hp} (Pv:St→Hp→Prop) (μ:St→Hp→Nat) (h0:Pv σ H)
  (hs:∀ σ H,Pv σ H→c σ H fun b H1=>if b=true then tb { D with nx:=fun σ' H'=>Pv σ' H'∧μ σ' H' < μ σ H,ct:=fun σ' H'=>Pv σ' H'∧μ σ' H' < μ σ H,bk:=D.nx } σ H1 else D.nx σ H1)
  (mono:∀ σ H Q Q',(∀ b H1,Q b H1→Q' b H1)→c σ H Q→c σ H Q'):tWhile c tb D σ H:=by
 refine ⟨fun m σ H=>m=μ σ H∧Pv σ H,⟨_,rfl,h0⟩,?_⟩
 rintro m σ H ⟨rfl,p⟩
 refine mono σ H _ _ (fun b H1 q=>?_) (hs σ H p)
 cases b with
 | true=>exact ⟨_,fun σ' H' ⟨p',l⟩=>⟨_,l,rfl,p'⟩,q⟩
 | false=>exact q
end L2
namespace L2
open PySem PySem.Spec PyProof.Rows
abbrev R2:=V→V→Hp→VK→Prop
def OpR (X:Cx) (f:Value→Value→Sem Value) (r:R2):Prop :=
 ∀ (pins:List (Addr×Obj)) (s:Shared) (σ:St) (H:Hp) (x y:V) (v u:Value) (Q:VK),Inv X pins σ H s→RelV x v→RelV y u→r x y H Q →
  wpAny (model X.prog X.w) X.A (f v u) (EP X pins σ Q) X.xe s
def UnR (X:Cx) (f:Value→Sem Value) (r:V→Hp→VK→Prop):Prop :=
 ∀ (pins:List (Addr×Obj)) (s:Shared) (σ:St) (H:Hp) (x:V) (v:Value) (Q:VK),Inv X pins σ H s→RelV x v→r x H Q →
  wpAny (model X.prog X.w) X.A (f v) (EP X pins σ Q) X.xe s
def CallR (X:Cx) (f:Value) (r:List V→Hp→VK→Prop):Prop :=
 ∀ (pins:List (Addr×Obj)) (s:Shared) (σ:St) (H:Hp) (xs:List V) (us:List Value) (Q:VK),Inv X pins σ H s→Vals xs us→r xs H Q →
  wpAny (model X.prog X.w) X.A (call f us) (EP X pins σ Q) X.xe s
def tOp (r:R2) (ta tb:TE):TE:=fun σ H Q=>ta σ H fun x H1=>tb σ H1 fun y H2=>r x y H2 Q
def tUn (r:V→Hp→VK→Prop) (ta:TE):TE:=fun σ H Q=>ta σ H fun x H1=>r x H1 Q
def rI (C:Int→Int→Prop) (g:Int→Int→V):R2:=fun x y H Q=>∃ i j,x=.int i∧y=.int j∧C i j∧Q (g i j) H
def rI0 (g:Int→Int→V):R2:=fun x y H Q=>∃ i j,x=.int i∧y=.int j∧Q (g i j) H
def rU (g:Int→V):V→Hp→VK→Prop:=fun x H Q=>∃ i,x=.int i∧Q (g i) H
section
variable {X:Cx} {a b c:Expr} {ta tb tc:TE} {pos:Pos}
theorem binT (ha:PE X a ta) (hb:PE X b tb) {pins:List (Addr×Obj)} {s:Shared} {σ:St} {H:Hp} {R:V→V→Hp→Prop} (I:Inv X pins σ H s)
  (h:ta σ H fun x H1=>tb σ H1 fun y H2=>R x y H2) {Q:Value→Shared→Prop} {f:Value→Value→Sem Value}
  (hf:∀ v u s2 x y H2,Inv X pins σ H2 s2→RelV x v→RelV y u→R x y H2→wpAny (model X.prog X.w) X.A (f v u) Q X.xe s2) :
  wpAny (model X.prog X.w) X.A (eval a X.env) (fun v s₁=>wpAny (model X.prog X.w) X.A (eval b X.env) (fun u s₂=>wpAny (model X.prog X.w) X.A (f v u) Q X.xe s₂) X.xe s₁) X.xe s:=by
 refine thn (ha pins s σ H _ I h) fun v s1 ⟨x,H1,I1,r1,q1⟩=>?_
 refine thn (hb pins s1 σ H1 _ I1 q1) fun u s2 ⟨y,H2,I2,r2,q2⟩=>?_
 exact hf v u s2 x y H2 I2 r1 r2 q2
theorem pe_op {op:Operator} {r:R2} (ho:OpR X (binaryOp op) r) (ha:PE X a ta) (hb:PE X b tb):PE X (.BinOp a op b pos) (tOp r ta tb):=by
 intro pins s σ H Q I h
 exact wpAny_BinOp (binT ha hb I h fun v u s2 x y H2 I2 rx ry q=>ho pins s2 σ H2 x y v u Q I2 rx ry q)
theorem pe_un {op:UnaryOp} {r:V→Hp→VK→Prop} (ho:UnR X (unaryOp op) r) (ha:PE X a ta):PE X (.UnaryOp op a pos) (tUn r ta):=by
 intro pins s σ H Q I h
 exact UnaryOp_ (thn (ha pins s σ H _ I h) fun v s1 ⟨x,H1,I1,r1,q1⟩=>ho pins s1 σ H1 x v Q I1 r1 q1)
theorem opI {f:Value→Value→Sem Value} {C:Int→Int→Prop} {g:Int→Int→Int}
  (rule:∀ (i j:Int) (t u:Tok) (s:Shared) (Q:Value→Shared→Prop) (E:Value→Shared→Prop),C i j→Q (.int (g i j) s.toks) { s with toks:=s.toks + 1 }→wpAny (model X.prog X.w) X.A (f (.int i t) (.int j u)) Q E s) :
  OpR X f (rI C fun i j=>.int (g i j)):=by
 intro pins s σ H x y v u Q I rx ry h
 obtain ⟨i,j,rfl,rfl,hc,q⟩:=h
 obtain ⟨t,rfl⟩:=rx
 obtain ⟨t',rfl⟩:=ry
 exact rule i j t t' s _ _ hc ⟨.int (g i j),H,I.tok _,⟨_,rfl⟩,q⟩
theorem opI0 {f:Value→Value→Sem Value} {g:Int→Int→Int}
  (rule:∀ (i j:Int) (t u:Tok) (s:Shared) (Q:Value→Shared→Prop) (E:Value→Shared→Prop),Q (.int (g i j) s.toks) { s with toks:=s.toks + 1 }→wpAny (model X.prog X.w) X.A (f (.int i t) (.int j u)) Q E s) :
  OpR X f (rI0 fun i j=>.int (g i j)):=by
 intro pins s σ H x y v u Q I rx ry h
 obtain ⟨i,j,rfl,rfl,q⟩:=h
 obtain ⟨t,rfl⟩:=rx
 obtain ⟨t',rfl⟩:=ry
 exact rule i j t t' s _ _ ⟨.int (g i j),H,I.tok _,⟨_,rfl⟩,q⟩
theorem opB0 {f:Value→Value→Sem Value} {g:Int→Int→Bool}
  (rule:∀ (i j:Int) (t u:Tok) (s:Shared) (Q:Value→Shared→Prop) (E:Value→Shared→Prop),Q (.bool (g i j)) s→wpAny (model X.prog X.w) X.A (f (.int i t) (.int j u)) Q E s) :
  OpR X f (rI0 fun i j=>.bl (g i j)):=by
 intro pins s σ H x y v u Q I rx ry h
 obtain ⟨i,j,rfl,rfl,q⟩:=h
 obtain ⟨t,rfl⟩:=rx
 obtain ⟨t',rfl⟩:=ry
 exact rule i j t t' s _ _ ⟨.bl (g i j),H,I,rfl,q⟩
def CDiv (i j:Int):Prop:=0 < j∧j < 1073741824
def CMul (i j:Int):Prop:=(-(2 ^ 64) < i∧i < 2 ^ 64)∨(-(2 ^ 64) < j∧j < 2 ^ 64)
theorem CMul.ok {i j:Int} (h:CMul i j):IntMulOk i j:=by
 rcases h with ⟨h1,h2⟩ | ⟨h1,h2⟩
 ·exact .of_left (intBits_le_64 h1 h2)
 ·exact .of_right (intBits_le_64 h1 h2)
theorem op_add:OpR X (binaryOp .Add) (rI0 fun i j=>.int (i + j)):=opI0 fun _ _ _ _ _ _ _ q=>add_int q
theorem op_sub:OpR X (binaryOp .Sub) (rI0 fun i j=>.int (i - j)):=opI0 fun _ _ _ _ _ _ _ q=>sub_int q
theorem op_mul:OpR X (binaryOp .Mult) (rI CMul fun i j=>.int (i * j)):=opI fun _ _ _ _ _ _ _ hc q=>mul_int q hc.ok
theorem op_fdiv:OpR X (binaryOp .FloorDiv) (rI CDiv fun i j=>.int (i / j)):=opI fun i j _ _ _ _ _ hc q=>by
 have h1:(0:Int) < j:=hc.1
 have h2:j < 1073741824:=hc.2
 exact floordiv_int (by omega) (by rw [Int.fdiv_eq_ediv_of_nonneg i (by omega)]; exact q) (.inl (PyProof.noPylong_small (by omega)))
theorem op_mod:OpR X (binaryOp .Mod) (rI (fun _ j=>0 < j) fun i j=>.int (i % j)):=opI fun i j _ _ _ _ _ hc q=>by
 have h1:(0:Int) < j:=hc
 exact mod_int' (by omega) (by rw [Int.fmod_eq_emod_of_nonneg i (by omega)]; exact q)
theorem unI {f:Value→Sem Value} {g:Int→Int}
  (rule:∀ (i:Int) (t:Tok) (s:Shared) (Q:Value→Shared→Prop) (E:Value→Shared→Prop),Q (.int (g i) s.toks) { s with toks:=s.toks + 1 }→wpAny (model X.prog X.w) X.A (f (.int i t)) Q E s) :
  UnR X f (rU fun i=>.int (g i)):=by
 intro pins s σ H x v Q I rx h
 obtain ⟨i,rfl,q⟩:=h
 obtain ⟨t,rfl⟩:=rx
 exact rule i t s _ _ ⟨.int (g i),H,I.tok _,⟨_,rfl⟩,q⟩
theorem un_neg:UnR X (unaryOp .USub) (rU fun i=>.int (-i)):=unI fun _ _ _ _ _ q=>neg_int q
end
def scal:V→V→Bool
 | .non,.non=>true | .non,.int _=>true | .int _,.non=>true | .non,.bl _=>true | .bl _,.non=>true | .non,.str _=>true | .str _,.non=>true
 | .int _,.int _=>true | .bl _,.bl _=>true | .str _,.str _=>true | .byt _,.byt _=>true
 | .int _,.str _=>true | .str _,.int _=>true | .bl _,.str _=>true | .str _,.bl _=>true
 | _,_=>false
def rEq:R2:=fun x y H Q=>scal x y=true∧Q (.bl (decide (x=y))) H
def rNe:R2:=fun x y H Q=>scal x y=true∧Q (.bl (!decide (x=y))) H
theorem dec_int {i j:Int}:decide (V.int i=V.int j)=(i==j):=by
 rw [Bool.eq_iff_iff]
 simp
theorem dec_bl {i j:Bool}:decide (V.bl i=V.bl j)=(i==j):=by
 rw [Bool.eq_iff_iff]
 simp
theorem dec_str {i j:Str}:decide (V.str i=V.str j)=(i==j):=by
 rw [Bool.eq_iff_iff]
 simp
theorem dec_byt {i j:Array UInt8}:decide (V.byt i=V.byt j)=(i.toList==j.toList):=by
 rw [Bool.eq_iff_iff]
 cases i
 cases j
 simp
section
variable {X:Cx} {a b c:Expr} {ta tb tc:TE} {pos:Pos}
theorem fin_bl {pins:List (Addr×Obj)} {σ:St} {H:Hp} {s:Shared} {Q:VK} {k k':Bool} (I:Inv X pins σ H s) (q:Q (.bl k) H) (e:k=k'):EP X pins σ Q (.bool k') s:=by
 subst e
 exact ⟨.bl k,H,I,rfl,q⟩
theorem op_eq:OpR X (compareOp .Eq) rEq:=by
 intro pins s σ H x y v u Q I rx ry h
 obtain ⟨hs,q⟩:=h
 cases x with
 | non =>
  cases rx
  cases y with
  | non=>cases ry; exact PySem.EqNone.eq_none_none (fin_bl I q (by simp))
  | bl j=>cases ry; exact PySem.EqNone.eq_none_bool (fin_bl I q (by simp))
  | int j=>obtain ⟨t',rfl⟩:=ry; exact PySem.EqNone.eq_none_int (fin_bl I q (by simp))
  | str j=>obtain ⟨t',rfl⟩:=ry; exact PySem.EqNone.eq_none_str (fin_bl I q (by simp))
  | _=>exact absurd (show false=true from hs) Bool.false_ne_true
 | bl i =>
  cases rx
  cases y with
  | non=>cases ry; exact PySem.EqNone.eq_bool_none (fin_bl I q (by simp))
  | bl j=>cases ry; exact eq_bool (fin_bl I q dec_bl)
  | str j=>obtain ⟨t',rfl⟩:=ry; exact PySem.EqMixed.eq_bool_str (fin_bl I q (by simp))
  | _=>exact absurd (show false=true from hs) Bool.false_ne_true
 | int i =>
  obtain ⟨t,rfl⟩:=rx
  cases y with
  | non=>cases ry; exact PySem.EqNone.eq_int_none (fin_bl I q (by simp))
  | int j=>obtain ⟨t',rfl⟩:=ry; exact eq_int (fin_bl I q dec_int)
  | str j=>obtain ⟨t',rfl⟩:=ry; exact PySem.EqMixed.eq_int_str (fin_bl I q (by simp))
  | _=>exact absurd (show false=true from hs) Bool.false_ne_true
 | str i =>
  obtain ⟨t,rfl⟩:=rx
  cases y with
  | non=>cases ry; exact PySem.EqNone.eq_str_none (fin_bl I q (by simp))
  | bl j=>cases ry; exact PySem.EqMixed.eq_str_bool (fin_bl I q (by simp))
  | int j=>obtain ⟨t',rfl⟩:=ry; exact PySem.EqMixed.eq_str_int (fin_bl I q (by simp))
  | str j=>obtain ⟨t',rfl⟩:=ry; exact eq_str (fin_bl I q dec_str)
  | _=>exact absurd (show false=true from hs) Bool.false_ne_true
 | byt i =>
  obtain ⟨t,rfl⟩:=rx
  cases y with
  | byt j=>obtain ⟨t',rfl⟩:=ry; exact PySem.W.eq_bytes (fin_bl I q dec_byt)
  | _=>exact absurd (show false=true from hs) Bool.false_ne_true
 | _=>cases y <;> exact absurd (show false=true from hs) Bool.false_ne_true
theorem op_ne:OpR X (compareOp .NotEq) rNe:=by
 intro pins s σ H x y v u Q I rx ry h
 obtain ⟨hs,q⟩:=h
 cases x with
 | non =>
  cases rx
  cases y with
  | non=>cases ry; exact PySem.EqNone.ne_none_none (fin_bl I q (by simp))
  | bl j=>cases ry; exact PySem.EqNone.ne_none_bool (fin_bl I q (by simp))
  | int j=>obtain ⟨t',rfl⟩:=ry; exact PySem.EqNone.ne_none_int (fin_bl I q (by simp))
  | str j=>obtain ⟨t',rfl⟩:=ry; exact PySem.EqNone.ne_none_str (fin_bl I q (by simp))
  | _=>exact absurd (show false=true from hs) Bool.false_ne_true
 | bl i =>
  cases rx
  cases y with
  | non=>cases ry; exact PySem.EqNone.ne_bool_none (fin_bl I q (by simp))
  | bl j=>cases ry; exact ne_bool (fin_bl I q (congrArg not dec_bl))
  | str j=>obtain ⟨t',rfl⟩:=ry; exact PySem.EqMixed.ne_bool_str (fin_bl I q (by simp))
  | _=>exact absurd (show false=true from hs) Bool.false_ne_true
 | int i =>
  obtain ⟨t,rfl⟩:=rx
  cases y with
  | non=>cases ry; exact PySem.EqNone.ne_int_none (fin_bl I q (by simp))
  | int j=>obtain ⟨t',rfl⟩:=ry; exact ne_int (fin_bl I q (congrArg not dec_int))
  | str j=>obtain ⟨t',rfl⟩:=ry; exact PySem.EqMixed.ne_int_str (fin_bl I q (by simp))
  | _=>exact absurd (show false=true from hs) Bool.false_ne_true
 | str i =>
  obtain ⟨t,rfl⟩:=rx
  cases y with
  | non=>cases ry; exact PySem.EqNone.ne_str_none (fin_bl I q (by simp))
  | bl j=>cases ry; exact PySem.EqMixed.ne_str_bool (fin_bl I q (by simp))
  | int j=>obtain ⟨t',rfl⟩:=ry; exact PySem.EqMixed.ne_str_int (fin_bl I q (by simp))
  | str j=>obtain ⟨t',rfl⟩:=ry; exact ne_str (fin_bl I q (congrArg not dec_str))
  | _=>exact absurd (show false=true from hs) Bool.false_ne_true
 | byt i =>
  obtain ⟨t,rfl⟩:=rx
  cases y with
  | byt j=>obtain ⟨t',rfl⟩:=ry; exact PySem.W.ne_bytes (fin_bl I q (congrArg not dec_byt))
  | _=>exact absurd (show false=true from hs) Bool.false_ne_true
 | _=>cases y <;> exact absurd (show false=true from hs) Bool.false_ne_true
theorem op_lt:OpR X (compareOp .Lt) (rI0 fun i j=>.bl (decide (i < j))):=opB0 fun _ _ _ _ _ _ _ q=>lt_int q
theorem op_le:OpR X (compareOp .LtE) (rI0 fun i j=>.bl (decide (i≤j))):=opB0 fun _ _ _ _ _ _ _ q=>le_int q
theorem op_gt:OpR X (compareOp .Gt) (rI0 fun i j=>.bl (decide (j < i))):=opB0 fun _ _ _ _ _ _ _ q=>gt_int q
theorem op_ge:OpR X (compareOp .GtE) (rI0 fun i j=>.bl (decide (j≤i))):=opB0 fun _ _ _ _ _ _ _ q=>ge_int q
theorem op_isN:OpR X (compareOp .Is) (fun x y H Q=>y=.non∧Q (.bl (decide (x=.non))) H):=by
 intro pins s σ H x y v u Q I rx ry h
 obtain ⟨rfl,q⟩:=h
 cases ry
 refine is_none_gen (fin_bl I q ?_)
 cases x <;> first
  | (cases rx; rfl)
  | (obtain ⟨t,rfl⟩:=rx; rfl)
theorem nomark (b:Expr) {op:CmpOp} (h:op≠.In:=by decide) (h2:op≠.NotIn:=by decide):behindInMarks op b=false:=by
 have e1:(op==CmpOp.In)=false:=by cases op <;> first | rfl | exact absurd rfl h
 have e2:(op==CmpOp.NotIn)=false:=by cases op <;> first | rfl | exact absurd rfl h2
 cases b <;> simp [behindInMarks,e1,e2]
theorem pe_cmpR {op:CmpOp} {r:R2} (ho:OpR X (compareOp op) r) (ha:PE X a ta) (hb:PE X b tb) (hm:behindInMarks op b=false):PE X (.Compare a [op] [b] pos) (tOp r ta tb):=by
 intro pins s σ H Q I h
 exact wpAny_Compare1 (binT ha hb I h fun v u s2 x y H2 I2 rx ry q=>ho pins s2 σ H2 x y v u Q I2 rx ry q) hm
def tTest (t:TE):TT:=fun σ H Q=>t σ H fun x H'=>∃ k,x=.bl k∧Q k H'
theorem pt_cmpR {op:CmpOp} {r:R2} (ho:OpR X (compareOp op) r) (ha:PE X a ta) (hb:PE X b tb) (hm:behindInMarks op b=false):PT X (.Compare a [op] [b] pos) (tTest (tOp r ta tb)):=by
 intro pins s σ H Q I h
 refine wpAny_isTrue_Compare1 (thn (ha pins s σ H _ I h) fun v s1 ⟨x,H1,I1,r1,q1⟩=>thn (hb pins s1 σ H1 _ I1 q1) fun u s2 ⟨y,H2,I2,r2,q2⟩ =>
  thn (ho pins s2 σ H2 x y v u _ I2 r1 r2 q2) fun c s3 ⟨z,H3,I3,r3,k,e,q3⟩=>?_) hm
 subst e
 cases r3
 exact wpAny_truthy_bool ⟨H3,I3,q3⟩
def tChain (r r':R2) (ta tb tc:TE):TE:=fun σ H Q=>ta σ H fun x H1=>tb σ H1 fun y H2=>r x y H2 fun z H3=>∃ k,z=.bl k ∧
 (if k=true then tc σ H3 fun w' H4=>r' y w' H4 Q else Q (.bl false) H3)
theorem pe_chain {op op':CmpOp} {r r':R2} (ho:OpR X (compareOp op) r) (ho':OpR X (compareOp op') r') (ha:PE X a ta) (hb:PE X b tb) (hc:PE X c tc)
  (hm:lastMarks [op,op'] [b,c]=false:=by with_unfolding_all rfl):PE X (.Compare a [op,op'] [b,c] pos) (tChain r r' ta tb tc):=by
 intro pins s σ H Q I h
 refine Compare_chain (thn (ha pins s σ H _ I h) fun v s1 ⟨x,H1,I1,r1,q1⟩=>chain_link (thn (hb pins s1 σ H1 _ I1 q1) fun u s2 ⟨y,H2,I2,r2,q2⟩ =>
  thn (ho pins s2 σ H2 x y v u _ I2 r1 r2 q2) fun d s3 ⟨z,H3,I3,r3,k,e,q3⟩=>?_)) hm
 subst e
 cases r3
 refine wpAny_truthy_bool ?_
 cases k with
 | false=>exact ite_ff ⟨.bl false,H3,I3,rfl,q3⟩
 | true=>exact ite_tt (chain_last (thn (hc pins s3 σ H3 _ I3 q3) fun w' s4 ⟨z',H4,I4,r4,q4⟩=>ho' pins s4 σ H4 y z' u w' Q I4 r2 r4 q4))
theorem pt_chain {op op':CmpOp} {r r':R2} (ho:OpR X (compareOp op) r) (ho':OpR X (compareOp op') r') (ha:PE X a ta) (hb:PE X b tb) (hc:PE X c tc)
  (hm:lastMarks [op,op'] [b,c]=false:=by with_unfolding_all rfl):PT X (.Compare a [op,op'] [b,c] pos) (tTest (tChain r r' ta tb tc)):=by
 intro pins s σ H Q I h
 refine isTrue_chain (thn (ha pins s σ H _ I h) fun v s1 ⟨x,H1,I1,r1,q1⟩=>test_link (thn (hb pins s1 σ H1 _ I1 q1) fun u s2 ⟨y,H2,I2,r2,q2⟩ =>
  thn (ho pins s2 σ H2 x y v u _ I2 r1 r2 q2) fun d s3 ⟨z,H3,I3,r3,k,e,q3⟩=>?_)) hm
 subst e
 cases r3
 refine wpAny_truthy_bool ?_
 cases k with
 | false =>
  obtain ⟨k',e',q'⟩:=q3
  cases e'
  exact ite_ff ⟨H3,I3,q'⟩
 | true =>
  refine ite_tt (test_last (thn (hc pins s3 σ H3 _ I3 q3) fun w' s4 ⟨z',H4,I4,r4,q4⟩=>thn (ho' pins s4 σ H4 y z' u w' _ I4 r2 r4 q4) fun d' s5 ⟨z2,H5,I5,r5,k2,e2,q5⟩=>?_))
  subst e2
  cases r5
  exact wpAny_truthy_bool ⟨H5,I5,q5⟩
theorem line63:(sizeLine:Nat) < 2 ^ 63:=by rw [sizeLine_eq]; decide
theorem vals1 {x:V} {us:List Value} (r:Vals [x] us):∃ u,us=[u]∧RelV x u:=by
 cases r with
 | cons r1 r2=>cases r2; exact ⟨_,rfl,r1⟩
theorem vals2 {x y:V} {us:List Value} (r:Vals [x,y] us):∃ u w',us=[u,w']∧RelV x u∧RelV y w':=by
 cases r with
 | cons r1 r2 =>
  cases r2 with
  | cons r3 r4=>cases r4; exact ⟨_,_,rfl,r1,r3⟩
theorem call_min2 (hc:X.calm=true):CallR X (.builtin "min") (fun xs H Q=>∃ i j,xs=[.int i,.int j]∧Q (.int (if j < i then j else i)) H):=by
 intro pins s σ H xs us Q I r h
 obtain ⟨i,j,rfl,q⟩:=h
 obtain ⟨u,w',rfl,⟨t,rfl⟩,⟨t',rfl⟩⟩:=vals2 r
 refine min_two_ints (I.ok.hd hc) fun h' tk k=>⟨_,H,I.kept k,?_,q⟩
 by_cases hj:j < i
 ·rw [if_pos hj,if_pos hj]; exact ⟨_,rfl⟩
 ·rw [if_neg hj,if_neg hj]; exact ⟨_,rfl⟩
end
end L2
namespace L2
open PySem PySem.Spec PyProof.Rows
structure ObjM (h:Heap) (x dx C:Addr) (mA:Str→Option Value):Prop where
 obj:h.get? x=some (PySem.W.instObj C dx)
 ns:h.Ns1 dx mA
 ne:dx≠x
theorem lookIn_ns {h:Heap} {dx:Addr} {mA:Str→Option Value} (n:h.Ns1 dx mA):∃ od,h.get? dx=some od∧∀ name,PySem.W.lookIn name od=some (mA name):=by
 obtain ⟨o,es,ep,ho,hd,hk,_,hm⟩:=n
 refine ⟨o,ho,fun name=>?_⟩
 have e:=hm name
 unfold nsFind findBy at e
 rw [←Array.find?_toList] at e
 unfold PySem.W.lookIn
 rw [hd]
 dsimp only
 split
 ·rename_i y q
  rw [q] at e
  exact congrArg some e
 ·rename_i q
  rw [q] at e
  have a:es.toList.any (·.refKey)=false:=by
   rw [List.any_eq_false]
   intro y hy
   obtain ⟨z,t,hkey⟩:=hk y (Array.mem_toList_iff.mp hy)
   simp [DictEntry.refKey,hkey]
  have a':¬ es.toList.any (·.refKey)=true:=by rw [a]; exact Bool.false_ne_true
  rw [if_neg a']
  exact congrArg some e
theorem ObjM.look {h:Heap} {x dx C:Addr} {mA:Str→Option Value} (I:ObjM h x dx C mA):∃ od,PySem.W.InstAt h x (PySem.W.instObj C dx) C (some od)∧∀ name,PySem.W.lookIn name od=some (mA name) :=
 let ⟨od,ho,hl⟩:=lookIn_ns I.ns
 ⟨od,⟨I.obj,rfl,rfl,ho⟩,hl⟩
section
variable {prog:Program} {w:World} {A:Around} {E:Value→Shared→Prop} {s:Shared} {K:PySem.W.Frag} {x dx C f:Addr} {mA:Str→Option Value} {name:Str} {v:Value}
theorem get_map {expr:Bool} {Q:Value→Shared→Prop} (X:K.In s.heap) (I:ObjM s.heap x dx C mA) (hg:PySem.W.plainGet K C name=true) (hh:PySem.W.hasDictIn K C=true)
  (ha:PySem.W.findIn K (.ref C) name=some none) (hv:mA name=some v) (hv':PySem.W.handedIn v=true) (h:Q v { s with toks:=s.toks + 1 }) :
  wpAny (model prog w) A (getAttr (.ref x) name expr) Q E s:=by
 obtain ⟨od,J,hl⟩:=I.look
 exact PySem.W.get_value X J (PySem.W.plainGet_of hg).1 (PySem.W.findObj_own hh ha rfl (by rw [hl,hv])) hv' h
theorem get_meth {pl:Sem Bool} {Q:Value×List Value→Shared→Prop} (X:K.In s.heap) (I:ObjM s.heap x dx C mA) (hg:PySem.W.plainGet K C name=true)
  (hf:PySem.W.findIn K (.ref C) name=some (some (.ref f))) (ht:PySem.W.isFn K (.ref f)=true) (hv:mA name=none) (h:Q (.ref f,[.ref x]) s) :
  wpAny (model prog w) A (getMethod (.ref x) name pl) Q E s:=by
 obtain ⟨od,J,hl⟩:=I.look
 exact PySem.W.method_fn X J (PySem.W.plainGet_of hg).1 (PySem.W.plainGet_of hg).2 hf (beq_iff_eq.mp ht) (by show (PySem.W.lookIn name od).map (·.isSome)=some false; rw [hl,hv]; rfl) h
theorem set_map {ns:List Str} {Q:Unit→Shared→Prop} (X:K.In s.heap) (I:ObjM s.heap x dx C mA)
  (hs:PySem.W.findIn K (.ref C) "__setattr__"=some (some (.builtin "object.__setattr__"))) (hp:PySem.W.plainOver K C=true) (ht:PySem.W.takerIn K C name=some none) (hh:PySem.W.hasDictIn K C=true)
  (hw:PySem.Within mA ns) (hsz:ns.length≤sizeLine)
  (h:∀ h',ObjM h' x dx C (fun y=>if y=name then some v else mA y)→Heap.SameBut dx s.heap h'→Q () { s with heap:=h',toks:=s.toks + 2 }) :
  wpAny (model prog w) A (setAttr (.ref x) name v) Q E s:=by
 obtain ⟨od,J,hl⟩:=I.look
 refine PySem.W.set_plain X J hs (PySem.W.osa_open (s:={ s with toks:=s.toks + 1 }) (r:=none) X J hp ht fun b=>?_)
 obtain ⟨cd,hc,hd'⟩:=PySem.W.any_some hh
 have hx:s.heap.get? x=some ⟨.ref C,some dx,.plain,#[]⟩:=I.obj
 refine wpAny_bind (wpAny_pure (wpAny_bind (wpAny_bind (wpAny_loadPart hx (wpAny_bind (PySem.W.Looks.here (s:={ s with toks:=s.toks + 1 }) (PySem.W.looks_clsIn X hc) ?_))))))
 rw [hd']
 refine wpAny_pure (a:=some dx) (wpAny_bind (wpAny_pure (wpAny_bind ?_)))
 refine wpAny_nsSet1 (s:={ s with toks:=s.toks + 1 }) I.ns fun h' hn2 hs2=>?_
 obtain ⟨oD,esD,epD,hoD,hdD,hcD⟩:=hn2.count (PySem.Within.cons name v hw)
 refine wpAny_bind (wpAny_lookBehind hoD (by rw [hdD]; exact pastItsLine_dict (Nat.le_trans hcD (by rw [List.length_cons]; omega))) ?_)
 exact wpAny_pure (h _ ⟨(hs2.2 _ (Ne.symm I.ne)).trans I.obj,hn2,I.ne⟩ hs2)
theorem make_map {R:Result→Shared→Prop} {vs:List Value} {kw:List (Str×Value)} (X:K.In s.heap) (hm:PySem.W.makesIn K C=true)
  (hi:PySem.W.findIn K (.ref C) "__init__"=some (some (.ref f))) (hf:PySem.W.typeIn K (.ref f)=some (.type "function"))
  (h:codeAny (model prog w) (A.under (.builtin "type.__call__" ⟨.ref C::vs,kw⟩)) (.call (.ref f) ⟨.ref (s.heap.objs.size + 1)::vs,kw⟩) (PySem.W.InitBack (s.heap.objs.size + 1) R)
   { s with heap:=(s.heap.push PySem.W.emptyDict).push (PySem.W.instObj C s.heap.objs.size) }) :
  codeAny (model prog w) A (.call (.ref C) ⟨vs,kw⟩) R s:=by
 obtain ⟨hh,g,d,t,os⟩:=s
 exact PySem.W.make_core (PySem.W.makes_of X hm) (PySem.W.looks_findIn X hi) (fun self=>PySem.W.bind_fn X self hf) (.inl rfl) h
end
def putF (f:Str) (v:V):List (Str×V)→List (Str×V)
 | []=>[(f,v)]
 | (g,x)::r=>if g=f then (g,v)::r else (g,x)::putF f v r
theorem lookup_putF (f g:Str) (v:V):∀ fs:List (Str×V),(putF f v fs).lookup g=if g=f then some v else fs.lookup g
 | []=>by
  show List.lookup g [(f,v)]=_
  by_cases h:g=f
  ·have hb:(g==f)=true:=beq_iff_eq.mpr h
   simp only [List.lookup,hb,if_pos h]
  ·have hb:(g==f)=false:=beq_eq_false_iff_ne.mpr h
   simp only [List.lookup,hb,if_neg h]
 | (k,x)::r=>by
  have ih:=lookup_putF f g v r
  rw [show putF f v ((k,x)::r)=(if k=f then (k,v)::r else (k,x)::putF f v r) from rfl]
  by_cases hk:k=f
  ·rw [if_pos hk]
   by_cases h:g=k
   ·have hb:(g==k)=true:=beq_iff_eq.mpr h
    simp only [List.lookup,hb,if_pos (h.trans hk)]
   ·have hb:(g==k)=false:=beq_eq_false_iff_ne.mpr h
    simp only [List.lookup,hb,if_neg (fun e:g=f=>h (e.trans hk.symm))]
  ·rw [if_neg hk]
   by_cases h:g=k
   ·have hb:(g==k)=true:=beq_iff_eq.mpr h
    simp only [List.lookup,hb,if_neg (fun e:g=f=>hk (h.symm.trans e))]
   ·have hb:(g==k)=false:=beq_eq_false_iff_ne.mpr h
    simp only [List.lookup,hb]
    exact ih
theorem keys_putF (f:Str) (v:V):∀ fs:List (Str×V),f∈(putF f v fs).map (·.1)∧∀ g,g∈fs.map (·.1)→g∈(putF f v fs).map (·.1)
 | []=>⟨by simp [putF],fun g h=>by simp at h⟩
 | (k,x)::r=>by
  obtain ⟨i1,i2⟩:=keys_putF f v r
  rw [show putF f v ((k,x)::r)=(if k=f then (k,v)::r else (k,x)::putF f v r) from rfl]
  by_cases hk:k=f
  ·rw [if_pos hk]
   subst hk
   exact ⟨by simp,fun g h=>by simpa using h⟩
  ·rw [if_neg hk]
   refine ⟨?_,fun g h=>?_⟩
   ·rw [List.map_cons]
    exact List.mem_cons_of_mem _ i1
   ·rw [List.map_cons] at h ⊢
    rcases List.mem_cons.mp h with e | e
    ·exact List.mem_cons.mpr (.inl e)
    ·exact List.mem_cons_of_mem _ (i2 g e)
theorem length_putF (f:Str) (v:V):∀ fs:List (Str×V),(putF f v fs).length≤fs.length + 1
 | []=>by simp [putF]
 | (k,x)::r=>by
  have ih:=length_putF f v r
  rw [show putF f v ((k,x)::r)=(if k=f then (k,v)::r else (k,x)::putF f v r) from rfl]
  by_cases hk:k=f
  ·rw [if_pos hk,List.length_cons,List.length_cons]; omega
  ·rw [if_neg hk,List.length_cons,List.length_cons]; omega
theorem RelO.some_of {v:V} {o:Option Value} (r:RelO (some v) o):∃ u,o=some u∧RelV v u:=by
 cases o with
 | none=>exact (show False from r).elim
 | some u=>exact ⟨u,rfl,r⟩
theorem RelO.none_of {o:Option Value} (r:RelO none o):o=none:=by
 cases o with
 | none=>rfl
 | some u=>exact (show False from r).elim
theorem handed_of {v:V} {u:Value} (r:RelV v u):PySem.W.handedIn u=true:=by
 cases v with
 | non=>cases (show u=Value.none from r); rfl
 | bl b=>cases (show u=Value.bool b from r); rfl
 | int i=>obtain ⟨t,e⟩:=(show ∃ t,u=Value.int i t from r); cases e; rfl
 | str x=>obtain ⟨t,e⟩:=(show ∃ t,u=Value.str x t from r); cases e; rfl
 | byt b=>obtain ⟨t,e⟩:=(show ∃ t,u=Value.bytes b t from r); cases e; rfl
 | flt b=>obtain ⟨t,e⟩:=(show ∃ t,u=Value.float b t from r); cases e; rfl
 | ref a=>cases (show u=Value.ref a from r); rfl
 | ty n=>cases (show u=Value.type n from r); rfl
section
variable {P:Program} {w:World} {H H':Hp} {h h':Heap} {a C dx:Addr} {fs fs':List (Str×V)}
theorem ins_get (hok:HOk P w H h) (e:H a=some (.ins C dx fs)):∃ mA,ObjM h a dx C mA∧(∀ f,RelO (fs.lookup f) (mA f))∧PySem.Within mA (fs.map (·.1))∧fs.length≤1000∧H dx=some (.own a):=by
 obtain ⟨d,z,ne,ob,mA,n,r,q⟩:=(show ObjOk P w H h a (.ins C dx fs) from hok a _ e)
 exact ⟨mA,⟨ob,n,ne⟩,r,q,z,d⟩
end
structure Cls (K:PySem.W.Frag) (C:Addr):Prop where
 pg:PySem.W.plainGet K C Str.empty=true
 hd:PySem.W.hasDictIn K C=true
 po:PySem.W.plainOver K C=true
 sa:PySem.W.findIn K (.ref C) "__setattr__"=some (some (.builtin "object.__setattr__"))
theorem Cls.get {K:PySem.W.Frag} {C:Addr} (c:Cls K C) (f:Str):PySem.W.plainGet K C f=true:=c.pg
def NoAttr (K:PySem.W.Frag) (C:Addr) (f:Str):Prop:=PySem.W.findIn K (.ref C) f=some none
theorem NoAttr.taker {K:PySem.W.Frag} {C:Addr} {f:Str} (n:NoAttr K C f):PySem.W.takerIn K C f=some none:=by
 unfold PySem.W.takerIn
 rw [show PySem.W.findIn K (.ref C) f=some none from n]
 rfl
structure Meth (K:PySem.W.Frag) (C:Addr) (m:Str) (f:Addr):Prop where
 at_:PySem.W.findIn K (.ref C) m=some (some (.ref f))
 fn:PySem.W.isFn K (.ref f)=true
 kp:PySem.W.keepIn K (.ref f)=true
section
variable {X:Cx} {pins:List (Addr×Obj)} {σ:St} {H:Hp} {s:Shared} {a C dx:Addr} {fs:List (Str×V)} {f:Str} {v:V} {A:Around} {E:Value→Shared→Prop}
theorem getattr_ok {b:Bool} {Q:Value→Shared→Prop} (I:Inv X pins σ H s) (e:H a=some (.ins C dx fs)) (c:Cls X.K C) (n:NoAttr X.K C f) (l:fs.lookup f=some v)
  (h:∀ u s',Inv X pins σ H s'→RelV v u→Q u s'):wpAny (model X.prog X.w) A (getAttr (.ref a) f b) Q E s:=by
 obtain ⟨mA,O,r,_,_,_⟩:=ins_get I.hok e
 obtain ⟨u,hu,ru⟩:=RelO.some_of (v:=v) (o:=mA f) (by rw [←l]; exact r f)
 exact get_map I.kIn O (c.get f) c.hd n hu (handed_of ru) (h u _ (I.tok _) ru)
theorem getmeth_ok {m:Str} {g:Addr} {pl:Sem Bool} {Q:Value×List Value→Shared→Prop} (I:Inv X pins σ H s) (e:H a=some (.ins C dx fs)) (c:Cls X.K C) (k:Meth X.K C m g) (l:fs.lookup m=none)
  (h:Q (.ref g,[.ref a]) s):wpAny (model X.prog X.w) A (getMethod (.ref a) m pl) Q E s:=by
 obtain ⟨mA,O,r,_,_,_⟩:=ins_get I.hok e
 have hn:mA m=none:=RelO.none_of (by rw [←l]; exact r m)
 exact get_meth I.kIn O (c.get m) k.at_ k.fn hn h
theorem setattr_ok {y:V} {u:Value} {Q:Unit→Shared→Prop} (I:Inv X pins σ H s) (e:H a=some (.ins C dx fs)) (c:Cls X.K C) (n:NoAttr X.K C f) (hl:fs.length < 1000) (ry:RelV y u)
  (h:∀ s',Inv X pins σ (upd H a (.ins C dx (putF f y fs))) s'→Q () s'):wpAny (model X.prog X.w) A (setAttr (.ref a) f u) Q E s:=by
 obtain ⟨mA,O,r,wi,_,ho⟩:=ins_get I.hok e
 have hz:(fs.map (·.1)).length≤sizeLine:=by rw [List.length_map,sizeLine_eq]; omega
 refine set_map I.kIn O c.sa c.po n.taker c.hd wi hz fun h' O' sb=>h _ ?_
 have hd:∃ o,h'.get? dx=some o:=let ⟨o,_,_,e',_⟩:=O'.ns; ⟨o,e'⟩
 refine I.write (x:=a) (e:=dx) (by rw [e]; exact True.intro) (.inr ho) (fun b q hb z=>(sb.2 b hb).trans z) hd ?_
 refine ⟨by rw [upd_ne O.ne]; exact ho,?_,O.ne,O'.obj,_,O'.ns,fun g=>?_,fun g hg=>?_⟩
 ·have:=length_putF f y fs; omega
 ·show RelO ((putF f y fs).lookup g) (if g=f then some u else mA g)
  rw [lookup_putF]
  by_cases q:g=f
  ·rw [if_pos q,if_pos q]; exact ry
  ·rw [if_neg q,if_neg q]; exact r g
 ·by_cases q:g=f
  ·rw [q]; exact (keys_putF f y fs).1
  ·refine (keys_putF f y fs).2 g (wi g fun z=>hg ?_)
   show (if g=f then some u else mA g)=none
   rw [if_neg q]; exact z
theorem Inv.made (I:Inv X pins σ H s):Inv X pins σ (upd (upd H s.heap.objs.size (.own (s.heap.objs.size + 1))) (s.heap.objs.size + 1) (.ins C s.heap.objs.size []))
  { s with heap:=(s.heap.push PySem.W.emptyDict).push (PySem.W.instObj C s.heap.objs.size) }:=by
 have e1:(s.heap.push PySem.W.emptyDict).get? s.heap.objs.size=some PySem.W.emptyDict:=Heap.get?_push_size s.heap rfl
 have e2:((s.heap.push PySem.W.emptyDict).push (PySem.W.instObj C s.heap.objs.size)).get? (s.heap.objs.size + 1)=some (PySem.W.instObj C s.heap.objs.size):=by
  have:=Heap.get?_push_size (s.heap.push PySem.W.emptyDict) (o:=PySem.W.instObj C s.heap.objs.size) rfl
  rwa [Heap.size_push] at this
 have e3:(s.heap.push PySem.W.emptyDict).Ns s.heap.objs.size (fun _=>none):=⟨PySem.W.emptyDict,#[],_,e1,rfl,(fun e he=>absurd he (by simp)),fun _=>rfl⟩
 have I1:=I.laid (a:=s.heap.objs.size) (o:=.own (s.heap.objs.size + 1)) (h':=s.heap.push PySem.W.emptyDict) (t':=s.toks) (fun b u q=>Heap.get?_push_of_some _ q) (Nat.le_refl _) ⟨_,e1⟩
 refine I1.laid (a:=s.heap.objs.size + 1) (o:=.ins C s.heap.objs.size []) (t':=s.toks) (fun b u q=>Heap.get?_push_of_some _ q) (Nat.le_of_eq (Heap.size_push _ _)) ?_
 have ne:s.heap.objs.size≠s.heap.objs.size + 1:=Nat.ne_of_lt (Nat.lt_succ_self _)
 refine ⟨by rw [upd_ne ne,upd_same],Nat.zero_le _,ne,e2,fun _=>none,(Heap.Ns1.of_empty e3).at fun o q=>Heap.get?_push_of_some _ q,fun _=>True.intro,fun y hy=>absurd rfl hy⟩
theorem attr_of {prog:Program} {w:World} {env:Env} {e:Expr} {f:Str} {pos:Pos} {s:Shared} {Q:Value→Shared→Prop} (hb:attributeBase e f env (eval e env)=eval e env)
  (h:wpAny (model prog w) A (eval e env) (fun o s₁=>wpAny (model prog w) A (getAttr o f true) Q E s₁) E s):wpAny (model prog w) A (eval (.Attribute e f pos) env) Q E s :=
 Attribute_any_ h (by rw [arm_eval_Attribute,hb])
end
def tFld (K:PySem.W.Frag) (ta:TE) (f:Str):TE:=fun σ H Q=>ta σ H fun x H1=>∃ a C dx fs v,x=.ref a∧H1 a=some (.ins C dx fs)∧Cls K C∧NoAttr K C f∧fs.lookup f=some v∧Q v H1
def sFld (K:PySem.W.Frag) (ta tv:TE) (f:Str):TS:=fun D σ H=>tv σ H fun y H1=>ta σ H1 fun x H2=>∃ a C dx fs,x=.ref a∧H2 a=some (.ins C dx fs)∧Cls K C∧NoAttr K C f∧fs.length < 1000 ∧
 D.nx σ (upd H2 a (.ins C dx (putF f y fs)))
section
variable {X:Cx} {o e value:Expr} {f:Str} {pos pos' tpos:Pos} {ta tv:TE}
theorem pe_fld (he:PE X e ta) (hb:attributeBase e f X.env (eval e X.env)=eval e X.env):PE X (.Attribute e f pos) (tFld X.K ta f):=by
 intro pins s σ H Q I h
 refine attr_of hb (thn (he pins s σ H _ I h) fun u s1 ⟨x,H1,I1,rx,a,C,dx,fs,v,ex,ea,c,n,l,q⟩=>?_)
 subst ex
 obtain rfl:u=Value.ref a:=rx
 exact getattr_ok I1 ea c n l fun u' s2 I2 ru=>⟨v,H1,I2,ru,q⟩
theorem ps_fld (ha:PE X o ta) (hv:PE X value tv) (hs:swapsWith value (some (.Attribute o f pos')) pos.line X.env=pure false):PS X (.Assign [.Attribute o f pos'] value pos) (sFld X.K ta tv f):=by
 intro pins s σ H D I h
 refine plainObj_wpAny_Assign_Attribute (thn (hv pins s σ H _ I h) fun u s1 ⟨y,H1,I1,ry,q⟩=>thn (ha pins s1 σ H1 _ I1 q) fun ov s2 ⟨x,H2,I2,rx,a,C,dx,fs,ex,ea,c,n,l,q2⟩=>?_) hs
 subst ex
 obtain rfl:ov=Value.ref a:=rx
 exact setattr_ok I2 ea c n l ry fun s3 I3=>⟨σ,_,I3,q2⟩
end
section
variable {X:Cx} {pins:List (Addr×Obj)} {σ:St} {H:Hp} {s:Shared} {A:Around} {E:Value→Shared→Prop} {Q:Value→Shared→Prop} {c:Value} {b:Bool}
end
end L2
namespace L2
open PySem PySem.Spec PyProof.Rows
structure Room (k:Nat) (A:Around):Prop where
 hd:A.handled=none
 dp:A.depth + 3 * k + 5 < recursionLimit
 un:A.units + 16 * k + 200 < cLine
theorem Room.mono {j k:Nat} {A:Around} (r:Room k A) (h:j≤k):Room j A:=⟨r.hd,by have:=r.dp; omega,by have:=r.un; omega⟩
theorem Room.deeper {k:Nat} {A:Around} (r:Room (k + 1) A) (env:Env):Room k (A.deeper env) :=
 ⟨r.hd,by have:=r.dp; show A.depth + 1 + 3 * k + 5 < _; omega,by have:=r.un; show A.units + 3 + 16 * k + 200 < _; omega⟩
theorem Room.in1 {k:Nat} {A:Around} (r:Room (k + 1) A):Room k A.in1 :=
 ⟨r.hd,by have:=r.dp; show A.depth + 3 * k + 5 < _; omega,by have:=r.un; show A.units + 1 + 16 * k + 200 < _; omega⟩
theorem make_depth {A:Around} {C:Addr} {us:List Value} {kw:List (Str×Value)}:(A.under (.builtin "type.__call__" ⟨.ref C::us,kw⟩)).depth=A.depth + 1:=by
 first | rfl | simp [Around.under,Code.weight,Code.isCreation,Code.isGuard,Code.isCaller,Code.frames,Code.isFrame,guardIds]
theorem make_units {A:Around} {C:Addr} {us:List Value} {kw:List (Str×Value)}:(A.under (.builtin "type.__call__" ⟨.ref C::us,kw⟩)).units=A.units + 1:=by
 first | rfl | simp [Around.under,Code.cUnits,Code.frames,Code.isFrame]
theorem Room.make {k:Nat} {A:Around} (r:Room (k + 1) A) (C:Addr) (us:List Value) (kw:List (Str×Value)):Room k (A.under (.builtin "type.__call__" ⟨.ref C::us,kw⟩)) :=
 ⟨r.hd,by have:=r.dp; rw [make_depth]; omega,by have:=r.un; rw [make_units]; omega⟩
theorem Room.depth {k:Nat} {A:Around} (r:Room k A):A.depth < recursionLimit:=by have:=r.dp; omega
theorem Room.units {k:Nat} {A:Around} (r:Room k A):A.units + 64 < cLine:=by have:=r.un; omega
theorem Room.units0 {k:Nat} {A:Around} (r:Room k A):A.units < cLine:=by have:=r.un; omega
def tNil:TA:=fun _ H Q=>Q [] H
def tCons (ta:TE) (tr:TA):TA:=fun σ H Q=>ta σ H fun x H1=>tr σ H1 fun xs H2=>Q (x::xs) H2
section
variable {X:Cx} {e:Expr} {es:List Expr} {te:TE} {t:TA} {pos:Pos}
theorem pa_nil:PA X [] tNil:=fun _ _ _ _ H Q I h=>Calls.spliced_nil ⟨[],H,I,.nil,h⟩
theorem pa_cons (ha:PE X e te) (hr:PA X es t) (hs:starEach (e::es) X.env=(false,eval e X.env)::starEach es X.env:=by rfl):PA X (e::es) (tCons te t):=by
 intro pos pins s σ H Q I h
 rw [hs]
 show wpAny _ _ (spliced ((false,eval e X.env)::backTo pos (starEach es X.env))) _ _ s
 refine Calls.spliced_cons (thn (ha pins s σ H _ I h) fun u s1 ⟨x,H1,I1,r1,q1⟩=>?_)
 exact thn (hr pos pins s1 σ H1 _ I1 q1) fun us s2 ⟨xs,H2,I2,r2,q2⟩=>⟨x::xs,H2,I2,.cons r1 r2,q2⟩
def tTup (t:TA):TE:=fun σ H Q=>t σ H fun xs H1=>xs.length≤sizeLine∧∀ p,H1 p=none→Q (.ref p) (upd H1 p (.tup xs))
def tLst (t:TA):TE:=fun σ H Q=>t σ H fun xs H1=>xs.length≤sizeLine∧∀ p,H1 p=none→Q (.ref p) (upd H1 p (.lst xs))
theorem pe_tup {x1} (h:PA X es t):PE X (.Tuple es x1 pos) (tTup t):=by
 intro pins s σ H Q I hq
 refine wpAny_Tuple_spliced (thn (h pos pins s σ H _ I hq) fun us s1 ⟨xs,H1,I1,r,z,q⟩=>⟨by rw [←r.length]; exact z,?_⟩)
 have hf:H1 s1.heap.objs.size=none:=I1.hok.fresh (Nat.le_refl _)
 refine ⟨.ref s1.heap.objs.size,upd H1 s1.heap.objs.size (.tup xs),I1.laid (t':=s1.toks) (fun b u e=>Heap.get?_push_of_some _ e) (Nat.le_refl _) ?_,rfl,q _ hf⟩
 exact ⟨z,us,r,⟨_,Heap.get?_push_size _ rfl,rfl,_,rfl⟩⟩
theorem pe_lst (h:PA X es t):PE X (.List es pos) (tLst t):=by
 intro pins s σ H Q I hq
 refine wpAny_List_spliced (thn (h pos pins s σ H _ I hq) fun us s1 ⟨xs,H1,I1,r,z,q⟩=>⟨by rw [←r.length]; exact z,?_⟩)
 have hf:H1 s1.heap.objs.size=none:=I1.hok.fresh (Nat.le_refl _)
 refine ⟨.ref s1.heap.objs.size,upd H1 s1.heap.objs.size (.lst xs),I1.laid (t':=s1.toks) (fun b u e=>Heap.get?_push_of_some _ e) (Nat.le_refl _) ?_,rfl,q _ hf⟩
 exact ⟨z,us,0,r,Heap.get?_push_size _ rfl⟩
end
abbrev Sp:=List V→Hp→VK→XK→Prop
abbrev CXT:=List Env→Hp→Shared→XK→Value→Shared→Prop
structure Env0 (P:Program) (w:World) (K:PySem.W.Frag) (mg:Str→Option Value) (base:Heap) (A:Around) (outer:List Env) (s:Shared) (H:Hp):Prop where
 frames:A.frames=some outer
 mod:Mod K mg base
 bs:∀ b o,base.get? b=some o→s.heap.get? b=some o∧H b=none
 bsz:base.objs.size≤s.heap.objs.size
 funs:s.heap.FunFrames base outer
 frf:∀ b∈frs outer,H b=none
 hok:HOk P w H s.heap
 bare:AllBare s.gens
def CE (outer:List Env) (P:Program) (w:World) (H:Hp) (s:Shared) (Q:VK) (u:Value) (s':Shared):Prop :=
 ∃ v H',s'.os=s.os∧AllBare s'.gens∧Un (frs outer) [] H H' s.heap s'.heap∧HOk P w H' s'.heap∧RelV v u∧Q v H'
def CR (CX:CXT) (outer:List Env) (P:Program) (w:World) (H:Hp) (s:Shared) (Q:VK) (E:XK) (r:Result) (s':Shared):Prop :=
 match r with
 | .ok (.ret u)=>CE outer P w H s Q u s'
 | .ok _=>False
 | .error e=>CX outer H s E e s'
structure FnOk (P:Program) (w:World) (K:PySem.W.Frag) (mg:Str→Option Value) (base:Heap) (CX:CXT) (k:Nat) (f:Addr) (fd:FuncData) (ps:List Str) (sp:Sp):Prop where
 len:∀ vs H Q E,sp vs H Q E→vs.length=ps.length
 run:∀ (A:Around) (outer:List Env) (s:Shared) (H:Hp) (args:Args) (us:List Value) (vs:List V) (Q:VK) (E:XK),Room k A→Env0 P w K mg base A outer s H→BindsTo s fd args (ps.zip us)→Vals vs us→sp vs H Q E →
  codeAny (model P w) A (.call (.ref f) args) (CR CX outer P w H s Q E) s
theorem Env0.make {P:Program} {w:World} {K:PySem.W.Frag} {mg:Str→Option Value} {base:Heap} {A:Around} {outer:List Env} {s:Shared} {H:Hp} (e:Env0 P w K mg base A outer s H) (C:Addr) (us:List Value) (kw:List (Str×Value)) :
  Env0 P w K mg base (A.under (.builtin "type.__call__" ⟨.ref C::us,kw⟩)) outer s H:=⟨by first | exact e.frames | (simpa [Around.under,Code.envs,Code.isFrame,pushEnvs] using e.frames),e.mod,e.bs,e.bsz,e.funs,e.frf,e.hok,e.bare⟩
section
variable {X:Cx} {pins:List (Addr×Obj)} {σ:St} {H:Hp} {s s':Shared}
theorem Inv.env0 (I:Inv X pins σ H s):Env0 X.prog X.w X.K X.mg X.base X.A X.stack s H :=
 ⟨I.ok.frames,I.ok.mod,I.bs,Nat.le_trans I.ok.bsz I.sz,I.stack,I.stkFree,I.hok,I.bare⟩
theorem Inv.after {Q:VK} {u:Value} (I:Inv X pins σ H s) (h:CE X.stack X.prog X.w H s Q u s'):EP X pins σ Q u s':=by
 obtain ⟨v,H',os,bare,un,hok,r,q⟩:=h
 obtain ⟨hh,g,d,t,os'⟩:=s'
 obtain rfl:os'=s.os:=os
 exact ⟨v,H',I.call (h':=hh) (g':=g) (d':=d) (t':=t) (ch:=[]) un hok bare (fun b z=>absurd z (by simp)),r,q⟩
end
def tCall (sp:Sp) (dvs:List V) (E:XK) (t:TA):TE:=fun σ H Q=>t σ H fun vs H1=>sp (vs++dvs) H1 Q E
def tMeth (C:Addr) (m:Str) (sp:Sp) (dvs:List V) (E:XK) (ta:TE) (t:TA):TE:=fun σ H Q=>ta σ H fun x H1=>∃ a dx fs,x=.ref a∧H1 a=some (.ins C dx fs)∧fs.lookup m=none ∧
 t σ H1 fun vs H2=>sp (x::(vs++dvs)) H2 Q E
def tMake (C:Addr) (sp:Sp) (dvs:List V) (E:XK) (t:TA):TE:=fun σ H Q=>t σ H fun vs H1=>∀ x dx,H1 x=none→H1 dx=none→dx≠x →
 sp (.ref x::(vs++dvs)) (upd (upd H1 dx (.own x)) x (.ins C dx [])) (fun v H2=>v=.non∧Q (.ref x) H2) E
def Binds (K:PySem.W.Frag) (fd:FuncData) (ps:List Str) (ds:List Value):Prop :=
 ∀ (s:Shared) (us:List Value),K.In s.heap→(us++ds).length=ps.length→BindsTo s fd ⟨us,[]⟩ (ps.zip (us++ds))
theorem Binds.all {K:PySem.W.Frag} {fd:FuncData} {ps:List Str} (h:∀ us:List Value,us.length=ps.length→bindArgs fd ⟨us,[]⟩=pure (ps.zip us)):Binds K fd ps []:=fun s us _ hl=>by
 rw [List.append_nil] at hl ⊢
 exact .of_eq (h us hl)
def Passes (CX:CXT) (X:Cx) (E:XK):Prop:=∀ (pins:List (Addr×Obj)) (σ:St) (H:Hp) (s:Shared) (e:Value) (s':Shared),Inv X pins σ H s→CX X.stack H s E e s'→X.xe e s'
section
variable {X:Cx} {CX:CXT} {k:Nat} {f C:Addr} {fd:FuncData} {ps:List Str} {sp:Sp} {dvs:List V} {ds:List Value} {E:XK} {x m:Str} {p pos apos:Pos} {e o:Expr} {es:List Expr} {ta:TE} {t:TA}
theorem run_fn {pins:List (Addr×Obj)} {σ:St} {H:Hp} {s:Shared} {Q:VK} {us:List Value} {vs:List V} (F:FnOk X.prog X.w X.K X.mg X.base CX k f fd ps sp) (hr:Room k X.A) (hb:Binds X.K fd ps ds) (hd:Vals dvs ds) (hx:Passes CX X E)
  (I:Inv X pins σ H s) (r:Vals vs us) (h:sp (vs++dvs) H Q E):wpAny (model X.prog X.w) X.A (call (.ref f) us) (EP X pins σ Q) X.xe s:=by
 have r2:Vals (vs++dvs) (us++ds):=r.append hd
 have hl:(us++ds).length=ps.length:=by rw [←r2.length]; exact F.len _ _ _ _ h
 refine wpAny_call (codeAny_mono (F.run X.A X.stack s H ⟨us,[]⟩ (us++ds) (vs++dvs) Q E hr I.env0 (hb s us I.kIn hl) r2 h) fun r s' hq=>?_)
 cases r with
 | error e=>exact hx pins σ H s e s' I hq
 | ok fl =>
  cases fl with
  | ret u=>exact I.after hq
  | next=>exact False.elim hq
  | brk=>exact False.elim hq
  | cont=>exact False.elim hq
theorem pe_call (F:FnOk X.prog X.w X.K X.mg X.base CX k f fd ps sp) (hr:Room k X.A) (hg:Gl X x) (hm:X.mg x=some (.ref f)) (hk:PySem.W.keepIn X.K (.ref f)=true) (hb:Binds X.K fd ps ds) (hd:Vals dvs ds) (hx:Passes CX X E)
  (ha:PA X (e::es) t) (hdb:(x==("__debug__":Str))=false:=by decide) (he:starEach (e::es) X.env=(false,eval e X.env)::starEach es X.env:=by rfl) (hpl:(backTo pos (starEach es X.env)).any (·.1)=false:=by rfl) :
  PE X (.Call (.Name x p) (e::es) [] pos) (tCall sp dvs E t):=by
 intro pins s σ H Q I h
 refine wpAny_Call_Name_kw (ld_glob I hg hm ?_ hdb)
 refine PySem.W.callWith_K (h₀:=X.base) I.ok.mod.kin hk (thn (ha pos pins s σ H _ I h) fun us s1 ⟨vs,H1,I1,r,q⟩=>⟨I1.kIn,?_⟩) he hpl
 exact run_fn F hr hb hd hx I1 r q
theorem pe_meth {pl:Sem Bool} (he:PE X o ta) (c:Cls X.K C) (hm:Meth X.K C m f) (F:FnOk X.prog X.w X.K X.mg X.base CX k f fd ps sp) (hr:Room k X.A) (hb:Binds X.K fd ps ds) (hd:Vals dvs ds) (hx:Passes CX X E) (ha:PA X (e::es) t)
  (hst:starEach (e::es) X.env=(false,eval e X.env)::starEach es X.env:=by rfl) (hpl:(backTo pos (starEach es X.env)).any (·.1)=false:=by rfl)
  (ht:eval (.Call (.Attribute o m apos) (e::es) [] pos) X.env=(do
   let ov ← eval o X.env
   standAt apos.atName
   let (f,first) ← holding [ov] (getMethod ov m pl)
   callWith pos f first (backTo pos (starEach (e::es) X.env)) (backToKw pos (keywordEach [] X.env))):=by rfl) :
  PE X (.Call (.Attribute o m apos) (e::es) [] pos) (tMeth C m sp dvs E ta t):=by
 intro pins s σ H Q I h
 refine PySem.W.methodCall_KW (pl:=pl) (thn (he pins s σ H _ I h) fun u s1 ⟨x,H1,I1,rx,a,dx,fs,ex,ea,l,q⟩=>?_) ht
 subst ex
 obtain rfl:u=Value.ref a:=rx
 refine getmeth_ok I1 ea c hm l ?_
 refine PySem.W.callWith_K (first:=[.ref a]) (h₀:=X.base) I.ok.mod.kin hm.kp (thn (ha pos pins s1 σ H1 _ I1 q) fun us s2 ⟨vs,H2,I2,r,q2⟩=>⟨I2.kIn,?_⟩) hst hpl
 exact run_fn (us:=.ref a::us) (vs:=.ref a::vs) F hr hb hd hx I2 (.cons rfl r) q2
theorem pe_meth0 {pl:Sem Bool} (he:PE X o ta) (c:Cls X.K C) (hm:Meth X.K C m f) (F:FnOk X.prog X.w X.K X.mg X.base CX k f fd ps sp) (hr:Room k X.A) (hb:Binds X.K fd ps ds) (hd:Vals dvs ds) (hx:Passes CX X E)
  (ht:eval (.Call (.Attribute o m apos) [] [] pos) X.env=(do
   let ov ← eval o X.env
   standAt apos.atName
   let (f,first) ← holding [ov] (getMethod ov m pl)
   callWith pos f first (backTo pos (starEach [] X.env)) (backToKw pos (keywordEach [] X.env))):=by rfl) :
  PE X (.Call (.Attribute o m apos) [] [] pos) (tMeth C m sp dvs E ta tNil):=by
 intro pins s σ H Q I h
 refine PySem.W.methodCall_KW (pl:=pl) (thn (he pins s σ H _ I h) fun u s1 ⟨x,H1,I1,rx,a,dx,fs,ex,ea,l,q⟩=>?_) ht
 subst ex
 obtain rfl:u=Value.ref a:=rx
 refine getmeth_ok I1 ea c hm l ?_
 exact PySem.W.callWith_K0 (first:=[.ref a]) I1.kIn hm.kp (run_fn (us:=[.ref a]) (vs:=[.ref a]) F hr hb hd hx I1 (.cons rfl .nil) q)
structure Mk (K:PySem.W.Frag) (C f:Addr):Prop where
 makes:PySem.W.makesIn K C=true
 init:PySem.W.findIn K (.ref C) "__init__"=some (some (.ref f))
 fn:PySem.W.isFn K (.ref f)=true
 kp:PySem.W.keepIn K (.ref C)=true
theorem run_make {pins:List (Addr×Obj)} {σ:St} {H:Hp} {s:Shared} {Q:VK} {us:List Value} {vs:List V} (M:Mk X.K C f) (F:FnOk X.prog X.w X.K X.mg X.base CX k f fd ps sp) (hr:Room (k + 1) X.A) (hb:Binds X.K fd ps ds) (hd:Vals dvs ds)
  (hx:Passes CX X E) (I:Inv X pins σ H s) (r:Vals vs us)
  (h:∀ x dx,H x=none→H dx=none→dx≠x→sp (.ref x::(vs++dvs)) (upd (upd H dx (.own x)) x (.ins C dx [])) (fun v H2=>v=.non∧Q (.ref x) H2) E) :
  wpAny (model X.prog X.w) X.A (call (.ref C) us) (EP X pins σ Q) X.xe s:=by
 have hq:=h (s.heap.objs.size + 1) s.heap.objs.size (I.hok.fresh (Nat.le_succ _)) (I.hok.fresh (Nat.le_refl _)) (Nat.ne_of_lt (Nat.lt_succ_self _))
 have I2:=Inv.made (C:=C) I
 have r2:Vals (V.ref (s.heap.objs.size + 1)::(vs++dvs)) (Value.ref (s.heap.objs.size + 1)::(us++ds)):=.cons rfl (r.append hd)
 have hl:(Value.ref (s.heap.objs.size + 1)::us++ds).length=ps.length:=by
  have e:=r2.length
  rw [F.len _ _ _ _ hq] at e
  exact e.symm
 refine wpAny_call (make_map (f:=f) I.kIn M.makes M.init (beq_iff_eq.mp M.fn) (codeAny_mono (F.run _ X.stack _ _ ⟨Value.ref (s.heap.objs.size + 1)::us,[]⟩ (Value.ref (s.heap.objs.size + 1)::(us++ds)) _ _ E (hr.make C us [])
  (I2.env0.make C us []) (hb _ (Value.ref (s.heap.objs.size + 1)::us) I2.kIn hl) r2 hq) fun r s' hq'=>?_))
 cases r with
 | error e=>exact hx pins σ _ _ e s' I2 hq'
 | ok fl =>
  cases fl with
  | ret u =>
   obtain ⟨v,H',I3,rv,ev,q3⟩:=I2.after hq'
   subst ev
   exact ⟨rv,⟨V.ref (s.heap.objs.size + 1),H',I3,rfl,q3⟩⟩
  | next=>exact False.elim hq'
  | brk=>exact False.elim hq'
  | cont=>exact False.elim hq'
theorem pe_make (M:Mk X.K C f) (F:FnOk X.prog X.w X.K X.mg X.base CX k f fd ps sp) (hr:Room (k + 1) X.A) (hg:Gl X x) (hm:X.mg x=some (.ref C)) (hb:Binds X.K fd ps ds) (hd:Vals dvs ds) (hx:Passes CX X E)
  (ha:PA X (e::es) t) (hdb:(x==("__debug__":Str))=false:=by decide) (he:starEach (e::es) X.env=(false,eval e X.env)::starEach es X.env:=by rfl) (hpl:(backTo pos (starEach es X.env)).any (·.1)=false:=by rfl) :
  PE X (.Call (.Name x p) (e::es) [] pos) (tMake C sp dvs E t):=by
 intro pins s σ H Q I h
 refine wpAny_Call_Name_kw (ld_glob I hg hm ?_ hdb)
 refine PySem.W.callWith_K (h₀:=X.base) I.ok.mod.kin M.kp (thn (ha pos pins s σ H _ I h) fun us s1 ⟨vs,H1,I1,r,q⟩=>⟨I1.kIn,?_⟩) he hpl
 exact run_make M F hr hb hd hx I1 r q
theorem pe_make0 (M:Mk X.K C f) (F:FnOk X.prog X.w X.K X.mg X.base CX k f fd ps sp) (hr:Room (k + 1) X.A) (hg:Gl X x) (hm:X.mg x=some (.ref C)) (hb:Binds X.K fd ps ds) (hd:Vals dvs ds) (hx:Passes CX X E)
  (hdb:(x==("__debug__":Str))=false:=by decide):PE X (.Call (.Name x p) [] [] pos) (tMake C sp dvs E tNil):=by
 intro pins s σ H Q I h
 refine wpAny_Call_Name_kw (ld_glob I hg hm ?_ hdb)
 exact PySem.W.callWith_K0 I.kIn M.kp (run_make (us:=[]) M F hr hb hd hx I .nil h)
end
section
variable {X:Cx} {CX:CXT} {k:Nat} {f C:Addr} {fd:FuncData} {ps ks:List Str} {sp:Sp} {E:XK} {x m:Str} {p pos apos kpos:Pos} {e o:Expr} {es:List Expr} {kws:List Keyword} {te ta:TE} {t tk:TA} {nm:Option Str}
variable {g:List Value→List Value→List Value} {gV:List V→List V→List V}
end
structure FnScope (N P:List Str) (sc:Scope):Prop where
 kind:sc.kind=.function
 co:sc.isCoroutine=false
 gen:sc.isGenerator=false
 nd:N.Nodup
 pre:N.take P.length=P
 par:∀ x∈P,sc.names.lookup x=some .local∨sc.names.lookup x=some .cell
 nofree:∀ y∈sc.names,y.2≠.free
theorem bindL_out {kindOf:Str→Option NameKind} {x:Str}:∀ {binds:List (Str×Value)} {m:Str→Option Value},(∀ v,(x,v) ∉ binds)→bindL kindOf binds m x=m x
 | [],_,_=>rfl
 | (n,v)::r,m,h=>by
  unfold bindL
  rw [bindL_out fun w hw=>h w (List.mem_cons_of_mem _ hw)]
  split
  ·have:x≠n:=by rintro rfl; exact h v List.mem_cons_self
   simp [this]
  ·rfl
theorem bindC_out {kindOf:Str→Option NameKind} {x:Str}:∀ {binds:List (Str×Value)} {m:Str→Option Value},(∀ v,(x,v) ∉ binds)→bindC kindOf binds m x=m x
 | [],_,_=>rfl
 | (n,v)::r,m,h=>by
  unfold bindC
  rw [bindC_out fun w hw=>h w (List.mem_cons_of_mem _ hw)]
  split
  ·rfl
  ·have:x≠n:=by rintro rfl; exact h v List.mem_cons_self
   simp [this]
theorem bindL_get {kindOf:Str→Option NameKind} {x:Str} {v:Value}:∀ {P:List Str} {vs:List Value} {i:Nat} {m:Str→Option Value},P.Nodup→P[i]?=some x→vs[i]?=some v→kindOf x=some .local →
  bindL kindOf (P.zip vs) m x=some v
 | [],_,_,_,_,h,_,_=>by simp at h
 | _::_,[],_,_,_,_,h,_=>by simp at h
 | p::P,w::vs,0,m,nd,h1,h2,hk=>by
  simp at h1 h2; subst h1; subst h2
  show bindL kindOf ((p,w)::P.zip vs) m p=_
  unfold bindL
  rw [bindL_out fun v hv=>(List.nodup_cons.mp nd).1 (List.of_mem_zip hv).1,if_pos hk]
  simp
 | p::P,w::vs,i + 1,m,nd,h1,h2,hk=>by
  show bindL kindOf ((p,w)::P.zip vs) m x=_
  unfold bindL
  exact bindL_get (i:=i) (List.nodup_cons.mp nd).2 (by simpa using h1) (by simpa using h2) hk
theorem bindC_get {kindOf:Str→Option NameKind} {x:Str} {v:Value}:∀ {P:List Str} {vs:List Value} {i:Nat} {m:Str→Option Value},P.Nodup→P[i]?=some x→vs[i]?=some v→kindOf x≠some .local →
  bindC kindOf (P.zip vs) m x=some v
 | [],_,_,_,_,h,_,_=>by simp at h
 | _::_,[],_,_,_,_,h,_=>by simp at h
 | p::P,w::vs,0,m,nd,h1,h2,hk=>by
  simp at h1 h2; subst h1; subst h2
  show bindC kindOf ((p,w)::P.zip vs) m p=_
  unfold bindC
  rw [bindC_out fun v hv=>(List.nodup_cons.mp nd).1 (List.of_mem_zip hv).1,if_neg hk]
  simp
 | p::P,w::vs,i + 1,m,nd,h1,h2,hk=>by
  show bindC kindOf ((p,w)::P.zip vs) m x=_
  unfold bindC
  exact bindC_get (i:=i) (List.nodup_cons.mp nd).2 (by simpa using h1) (by simpa using h2) hk
def start (N:List Str) (vs:List V):St:=vs.map some++List.replicate (N.length - vs.length) none
def cxOf (CX:CXT) (P:Program) (w:World) (K:PySem.W.Frag) (mg:Str→Option Value) (base:Heap) (N:List Str) (qual:Str) (scope:Scope) (f:Addr) (cd:Value) (A:Around) (outer:List Env) (s:Shared) (H:Hp) (E:XK):Cx where
 prog:=P
 w:=w
 K:=K
 mg:=mg
 base:=base
 A:=A.deeper (envOfC qual scope s.heap.objs.size f cd)
 N:=N
 s_0:=s
 H_0:=H
 env:=envOfC qual scope s.heap.objs.size f cd
 outer:=outer
 stack:=envOfC qual scope s.heap.objs.size f cd::outer
 ex:=[]
 calm:=true
 fn:=fun _=>true
 pn:=[]
 xe:=fun e s'=>wpAny (model P w) (A.deeper (envOfC qual scope s.heap.objs.size f cd)) (leaving (envOfC qual scope s.heap.objs.size f cd) e) (fun _ s''=>CX outer H s E e s'') (fun e' s''=>CX outer H s E e' s'') s'
theorem cell_has {sc:Scope} {n:Nat} {x:Str} (h:sc.names.lookup x=some .cell):∃ c,(cellsFrom n sc.names []).lookup x=some c:=by
 have q:=PySem.W.cellsFrom_some sc.names n [] (.inl h)
 exact Option.isSome_iff_exists.mp q
theorem inv_start {CX:CXT} {P:Program} {w:World} {K:PySem.W.Frag} {mg:Str→Option Value} {base:Heap} {N ps:List Str} {qual:Str} {scope:Scope} {f:Addr} {cd:Value} {A:Around} {outer:List Env} {s s1:Shared} {H:Hp} {E:XK} {us:List Value} {vs:List V}
  (S:FnScope N ps scope) (hd:A.handled=none) (e0:Env0 P w K mg base A outer s H) (hl:vs.length=ps.length) (r:Vals vs us)
  (x:InCallC s s.heap.objs.size (bindL (envOfC qual scope s.heap.objs.size f cd).kindOf (ps.zip us) fun _=>none) (cellsFrom (s.heap.objs.size + 1) scope.names []) (bindC (envOfC qual scope s.heap.objs.size f cd).kindOf (ps.zip us) fun _=>none) s1) :
  Inv (cxOf CX P w K mg base N qual scope f cd A outer s H E) [] (start N vs) H s1:=by
 have hpl:ps.length≤N.length:=by have:=congrArg List.length S.pre; rw [List.length_take] at this; omega
 obtain ⟨h1,tk,rfl,hk⟩:=x.done
 have noA:∀ b:Addr,b ∉ (cxOf CX P w K mg base N qual scope f cd A outer s H E).ex:=fun b z=>absurd (show b∈([]:List Addr) from z) (by simp)
 refine ⟨⟨e0.mod,S.kind,rfl,rfl,Nat.le_refl _,fun y z c h1 h2=>?_,fun y hy=>?_,fun y c _ h=>?_,fun _=>hd,Around.frames_deeper e0.frames,.inr ⟨rfl,rfl⟩,fun b z=>absurd z (noA b),e0.bs,e0.bsz,fun b _ _=>noA b,fun b z=>absurd z (noA b),e0.funs,e0.frf⟩,
  rfl,e0.bare,Un.kept hk,⟨_,x.toInCall.ns,fun i y v h1 h2 h3=>?_⟩,fun y c h=>⟨_,x.cell y c h⟩,e0.hok.fresh (Nat.le_refl _),fun y c h=>?_,fun p hp=>absurd (show p∈([]:List (Addr×Obj)) from hp) (by simp),e0.hok.kept hk,?_⟩
 ·exact name_of_addr x.apart (PySem.mem_of_lookup h1) (PySem.mem_of_lookup h2)
 ·have hy:scope.names.lookup y=some .cell∨scope.names.lookup y=some .free:=hy
  rcases hy with hy | hy
  ·exact cell_has hy
  ·exact absurd rfl (S.nofree _ (PySem.mem_of_lookup hy))
 ·exact Nat.le_of_lt (x.above y c (PySem.mem_of_lookup h))
 ·have hi:i < vs.length:=by
   unfold start at h2
   by_cases hi:i < vs.length
   ·exact hi
   ·rw [List.getElem?_append_right (by simpa using hi)] at h2
    rw [List.getElem?_replicate] at h2
    split at h2 <;> cases h2
  have ha:vs[i]?=some v:=by
   unfold start at h2
   rw [List.getElem?_append_left (by simpa using hi),List.getElem?_map] at h2
   cases e:vs[i]? with
   | none=>rw [e] at h2; cases h2
   | some a=>rw [e] at h2; cases h2; rfl
  obtain ⟨u,hu,rv⟩:=r.get ha
  have hp:ps[i]?=some y:=by
   rw [←S.pre,List.getElem?_take_of_lt (by omega)]; exact h1
  have ndP:ps.Nodup:=by rw [←S.pre]; exact S.nd.sublist (List.take_sublist _ _)
  refine ⟨u,rv,?_⟩
  rcases S.par y (List.mem_of_getElem? hp) with k | k
  ·exact .inl ⟨k,bindL_get ndP hp hu k⟩
  ·obtain ⟨c,e⟩:=cell_has (n:=s.heap.objs.size + 1) k
   refine .inr ⟨.inl k,c,e,?_⟩
   have q:=x.cell y c e
   rw [bindC_get ndP hp hu (by show scope.names.lookup y≠_; rw [k]; decide)] at q
   exact q
 ·exact e0.hok.fresh (Nat.le_of_lt (x.above y c (PySem.mem_of_lookup h)))
 ·unfold start
  show _=N.length
  rw [List.length_append,List.length_map,List.length_replicate]
  omega
theorem fn_of {CX:CXT} {P:Program} {w:World} {K:PySem.W.Frag} {mg:Str→Option Value} {base:Heap} {k:Nat} {f:Addr} {name qual:Str} {params:Arguments} {body:List Stmt} {scope:Scope} {dV kV doc pm cdv ct oc:Value} {an od:Option Addr}
  {osl:Array (Option Value)} {N ps:List Str} {sp:Sp} (lk:K.lookup f=some ⟨oc,od,.func (PySem.W.fnOf name qual params body scope dV kV doc pm an cdv ct),osl⟩) (hcd:PySem.W.codeIn K cdv qual=true) (S:FnScope N ps scope)
  (len:∀ vs H Q E,sp vs H Q E→vs.length=ps.length)
  (hbody:∀ (A:Around) (outer:List Env) (s:Shared) (H:Hp) (vs:List V) (Q:VK) (E:XK),Room k (A.deeper (envOfC qual scope s.heap.objs.size f cdv))→sp vs H Q E →
   ∃ t,PSs (cxOf CX P w K mg base N qual scope f cdv A outer s H E) body t∧t { nx:=fun _ H'=>Q .non H',rt:=Q } (start N vs) H) :
  FnOk P w K mg base CX (k + 1) f (PySem.W.fnOf name qual params body scope dV kV doc pm an cdv ct) ps sp:=by
 refine ⟨len,fun A outer s H args us vs Q E hr e0 hb r hsp=>?_⟩
 have hl:=len _ _ _ _ hsp
 have KX:K.In s.heap:=e0.mod.kin.keeps fun b o e=>(e0.bs b o e).1
 have lim:s.heap.NoLimit:=e0.mod.nolimit.keeps fun b o e=>(e0.bs b o e).1
 have hkind:∀ y∈ps.zip us,scope.names.lookup y.1=some .local∨(scope.names.lookup y.1=some .cell∧((cellsFrom (s.heap.objs.size + 1) scope.names []).lookup y.1).isSome=true):=fun ⟨n,v⟩ hy=>by
  rcases S.par n (List.of_mem_zip hy).1 with q | q
  ·exact .inl q
  ·exact .inr ⟨q,PySem.W.cellsFrom_some _ _ _ (.inl q)⟩
 refine codeAny_call_function hr.depth (KX _ _ lk) rfl S.co S.gen rfl (PySem.W.codeRec_of KX hcd) (hb _ _ _ _ ?_)
 refine wpAny_newFunctionEnv_cells S.kind hkind fun env he s1 x=>?_
 subst he
 refine ⟨lim.keeps x.toInCall.keep,codeAny_func ?_⟩
 obtain ⟨t,ht,hq⟩:=hbody A outer s H vs Q E (hr.deeper _) hsp
 have I:Inv (cxOf CX P w K mg base N qual scope f cdv A outer s H E) [] (start N vs) H s1:=inv_start S hr.hd e0 hl r x
 refine wpAny_mono (ht [] s1 (start N vs) H _ I hq) (fun fl s' hs=>?_) fun e s' hs=>hs
 have fin:∀ {σ':St} {H':Hp} {v:V} {u:Value},Inv (cxOf CX P w K mg base N qual scope f cdv A outer s H E) [] σ' H' s'→RelV v u→Q v H'→CE outer P w H s Q u s' :=
  fun {σ' H' v u} J rv q=>⟨v,H',J.os,J.bare,J.base,J.hok,rv,q⟩
 cases fl with
 | ret u =>
  obtain ⟨v,σ',H',J,rv,q⟩:=hs
  exact fin J rv q
 | next =>
  obtain ⟨σ',H',J,q⟩:=hs
  exact fin (v:=V.non) (u:=Value.none) J rfl q
 | brk =>
  obtain ⟨_,_,_,q⟩:=hs
  exact False.elim q
 | cont =>
  obtain ⟨_,_,_,q⟩:=hs
  exact False.elim q
end L2
namespace L2
open PySem PySem.Spec PyProof.Rows
section
variable {X:Cx} {x:Str} {p pos:Pos} {e:Expr} {es:List Expr} {t:TA} {id T:String} {r:List V→Hp→VK→Prop}
def tCB (r:List V→Hp→VK→Prop) (t:TA):TE:=fun σ H Q=>t σ H fun vs H1=>r vs H1 Q
theorem pe_callB (hc:CallR X (.builtin id) r) (hg:Gl X x) (hm:X.mg x=none) (hv:bootBuiltins x=some (.builtin id)) (ha:PA X (e::es) t) (hn:x≠"__name__":=by decide) (hdb:(x==("__debug__":Str))=false:=by decide)
  (he:starEach (e::es) X.env=(false,eval e X.env)::starEach es X.env:=by rfl) (hpl:(backTo pos (starEach es X.env)).any (·.1)=false:=by rfl):PE X (.Call (.Name x p) (e::es) [] pos) (tCB r t):=by
 intro pins s σ H Q I h
 refine wpAny_Call_Name_kw (ld_blt I hg hm hv ?_ hn hdb)
 exact PyProof.Rows.callWith_builtin1 (thn (ha pos pins s σ H _ I h) fun us s1 ⟨vs,H1,I1,r1,q1⟩=>hc pins s1 σ H1 vs us Q I1 r1 q1) he hpl
theorem pe_callTy (hc:CallR X (.type T) r) (hg:Gl X x) (hm:X.mg x=none) (hv:bootBuiltins x=some (.type T)) (ha:PA X (e::es) t) (hn:x≠"__name__":=by decide) (hdb:(x==("__debug__":Str))=false:=by decide)
  (he:starEach (e::es) X.env=(false,eval e X.env)::starEach es X.env:=by rfl) (hpl:(backTo pos (starEach es X.env)).any (·.1)=false:=by rfl):PE X (.Call (.Name x p) (e::es) [] pos) (tCB r t):=by
 intro pins s σ H Q I h
 refine wpAny_Call_Name_kw (ld_blt I hg hm hv ?_ hn hdb)
 exact PyProof.Rows.callWith_type1 (thn (ha pos pins s σ H _ I h) fun us s1 ⟨vs,H1,I1,r1,q1⟩=>hc pins s1 σ H1 vs us Q I1 r1 q1) he hpl
end
end L2
namespace HT
open PySem PyProof.Rows
def lexLt:List Int→List Int→Bool
 | [],[]=>false
 | [],_::_=>true
 | _::_,[]=>false
 | x::xs,y::ys=>if x=y then lexLt xs ys else decide (x < y)
theorem lexLt_cons (x y:Int) (xs ys:List Int):lexLt (x::xs) (y::ys)=if x=y then lexLt xs ys else decide (x < y):=rfl
theorem lexLt_nil_nil:lexLt [] []=false:=rfl
theorem lexLt_nil_cons (y:Int) (ys:List Int):lexLt [] (y::ys)=true:=rfl
theorem lexLt_cons_nil (x:Int) (xs:List Int):lexLt (x::xs) []=false:=rfl
theorem eqAt_int (A:Around) (s:Shared) (a:Int) (t:Tok) (c:Int) (u:Tok):∃ e,SeqAt.EqAt A s (.int a t) (.int c u) e∧(e=true↔a=c) :=
 ⟨(a==c),SeqAt.EqAt.int_int a t c u,by simp⟩
theorem rcLt_int (A:Around) (s:Shared) (a:Int) (t:Tok) (c:Int) (u:Tok) (prog:Program) (w:World) (E:Value→Shared→Prop) (Q:Value→Shared→Prop) (h:Q (.bool (decide (a < c))) s) :
  wpAny (model prog w) A (richCompare .Lt (.int a t) (.int c u)) Q E s :=
 (PyProof.Rows.lt_int h:wpAny (model prog w) A (compareOp .Lt (.int a t) (.int c u)) Q E s)
section
open PySem.SeqAt
open PySem.AutoSeq1 (wpAny_loadPart')
open PySem.MeetsSeq PySem.MeetsSeq2 PySem.MeetsSeq3
end
section
variable {prog:Program} {w:World} {A:Around} {E:Value→Shared→Prop} {s:Shared}
def sIx (n d:Nat):Option Int→Nat
 | none=>d
 | some v=>if v < 0 then (v + (n:Int)).toNat else min v.toNat n
end
end HT
namespace L2
open PySem PySem.Spec PyProof.Rows
abbrev TO:=St→Hp→(Option Int→Hp→Prop)→Prop
def PO (X:Cx) (e:Option Expr) (t:TO):Prop :=
 ∀ (pins:List (Addr×Obj)) (s:Shared) (σ:St) (H:Hp) (Q:Option Int→Hp→Prop),Inv X pins σ H s→t σ H Q →
  wpAny (model X.prog X.w) X.A (evalPart e X.env) (fun u s'=>∃ o H',Inv X pins σ H' s'∧IsPart u o∧Q o H') X.xe s
def tNoPart:TO:=fun _ H Q=>Q none H
def tPart (t:TE):TO:=fun σ H Q=>t σ H fun x H1=>∃ i,x=.int i∧Q (some i) H1
section
variable {X:Cx} {e:Expr} {te:TE} {lo hi:Option Expr} {tl th:TO} {pos p2:Pos}
theorem po_none:PO X none tNoPart:=by
 intro pins s σ H Q I h
 rw [evalPart_none]
 exact wpAny_pure ⟨none,H,I,.none,h⟩
theorem po_some (h:PE X e te):PO X (some e) (tPart te):=by
 intro pins s σ H Q I hw
 rw [evalPart_some]
 refine thn (h pins s σ H _ I hw) fun u s1 ⟨x,H1,I1,r1,q1⟩=>?_
 obtain ⟨i,rfl,q⟩:=q1
 obtain ⟨t,rfl⟩:=r1
 exact ⟨some i,H1,I1,.int i t,q⟩
def SlR (X:Cx) (r:V→Option Int→Option Int→Hp→VK→Prop):Prop :=
 ∀ (pins:List (Addr×Obj)) (s:Shared) (σ:St) (H:Hp) (x:V) (v vl vu:Value) (lo hi:Option Int) (sl:Addr) (Q:VK),Inv X pins σ H s→RelV x v→s.heap.IsSliceOf sl vl vu .none→IsPart vl lo→IsPart vu hi→r x lo hi H Q →
  ∃ T id,typeLookup (.type T) "__getitem__"=pure (some (.builtin id))∧s.TypeIs v T∧wpAny (model X.prog X.w) X.A (getItem v (.ref sl)) (EP X pins σ Q) X.xe s
def tSl (r:V→Option Int→Option Int→Hp→VK→Prop) (te:TE) (tl th:TO):TE:=fun σ H Q=>te σ H fun x H1=>tl σ H1 fun l H2=>th σ H2 fun u H3=>r x l u H3 Q
theorem pe_slice {r:V→Option Int→Option Int→Hp→VK→Prop} (hr:SlR X r) (he:PE X e te) (hl:PO X lo tl) (hu:PO X hi th):PE X (.Subscript e (.Slice lo hi none p2) pos) (tSl r te tl th):=by
 intro pins s σ H Q I h
 refine Subscript_ (thn (he pins s σ H _ I h) fun v s1 ⟨x,H1,I1,r1,q1⟩=>?_)
 refine wpAny_Slice (thn (hl pins s1 σ H1 _ I1 q1) fun vl s2 ⟨l,H2,I2,pl,q2⟩=>thn (hu pins s2 σ H2 _ I2 q2) fun vu s3 ⟨u,H3,I3,pu,q3⟩=>?_)
 rw [evalPart_none]
 refine wpAny_pure ?_
 have I4:Inv X pins σ H3 { s3 with heap:=s3.heap.push { cls:=.type "slice",data:=.fields #[vl,vu,.none] } }:=I3.kept (t':=s3.toks) fun b ob q=>Heap.get?_push_of_some _ q
 obtain ⟨T,id,hT,ht,hg⟩:=hr pins { s3 with heap:=s3.heap.push { cls:=.type "slice",data:=.fields #[vl,vu,.none] } } σ H3 x v vl vu l u s3.heap.objs.size Q I4 r1 (Heap.IsSliceOf.new ..) pl pu q3
 show wpAny (model X.prog X.w) X.A (subscriptTail e (.Slice lo hi none p2) v (.ref s3.heap.objs.size)) (EP X pins σ Q) X.xe { s3 with heap:=s3.heap.push { cls:=.type "slice",data:=.fields #[vl,vu,.none] } }
 exact tail_any (ops:=[.ref s3.heap.objs.size,v]) ht hT hg (by with_unfolding_all rfl)
def cutV (xs:List V) (lo hi:Option Int):List V:=(xs.drop (HT.sIx xs.length 0 lo)).take (HT.sIx xs.length xs.length hi - HT.sIx xs.length 0 lo)
theorem cutV_length (xs:List V) (lo hi:Option Int):(cutV xs lo hi).length≤xs.length:=by
 unfold cutV
 rw [List.length_take,List.length_drop]
 omega
end
end L2
namespace L2
open PySem PySem.Spec PyProof.Rows
def ixN (n:Nat) (i:Int):Option Nat:=if 0≤i then (if i < n then some i.toNat else none) else if -(n:Int)≤i then some (i + n).toNat else none
def atI {α:Type} (xs:List α) (i:Int):Option α:=(ixN xs.length i).bind fun j=>xs[j]?
theorem ixN_seq {n:Nat} {i:Int} {j:Nat} (h:ixN n i=some j):seqIndex? i n=some j∧j < n∧-(n:Int)≤i∧i < n:=by
 unfold ixN at h
 by_cases h0:0≤i
 ·rw [if_pos h0] at h
  by_cases h1:i < n
  ·rw [if_pos h1] at h
   have e:i.toNat=j:=Option.some.inj h
   exact ⟨by rw [seqIndex_of h0 h1,e],by omega,by omega,h1⟩
  ·rw [if_neg h1] at h; cases h
 ·rw [if_neg h0] at h
  by_cases h1:-(n:Int)≤i
  ·rw [if_pos h1] at h
   have e:(i + n).toNat=j:=Option.some.inj h
   exact ⟨by rw [seqIndex_neg (by omega) h1,e],by omega,h1,by omega⟩
  ·rw [if_neg h1] at h; cases h
theorem atI_get {α:Type} {xs:List α} {i:Int} {v:α} (h:atI xs i=some v):∃ j,seqIndex? i xs.length=some j∧xs[j]?=some v∧j < xs.length∧-(xs.length:Int)≤i∧i < xs.length:=by
 unfold atI at h
 cases e:ixN xs.length i with
 | none=>rw [e] at h; cases h
 | some j =>
  rw [e] at h
  obtain ⟨h1,h2,h3,h4⟩:=ixN_seq e
  exact ⟨j,h1,h,h2,h3,h4⟩
theorem atI_nat {α:Type} {xs:List α} {j:Nat} {v:α} (h:xs[j]?=some v):atI xs (j:Int)=some v:=by
 have hj:j < xs.length:=(List.getElem?_eq_some_iff.mp h).1
 have e:ixN xs.length (j:Int)=some j:=by
  unfold ixN
  rw [if_pos (by omega),if_pos (by omega)]; simp
 unfold atI; rw [e]; exact h
theorem atI_last {α:Type} (xs:List α) (v:α):atI (xs++[v]) (-1)=some v:=by
 have hl:(xs++[v]).length=xs.length + 1:=by simp
 have e:ixN (xs++[v]).length (-1)=some xs.length:=by
  unfold ixN
  rw [hl,if_neg (by decide),if_pos (by omega)]
  congr 1
  omega
 unfold atI
 rw [e]
 show (xs++[v])[xs.length]?=some v
 simp
def PlainIx (b:Expr):Prop:=∀ o i,subscripted b false o i=operate [o,i] (getItem o i)
def IxR (X:Cx) (r:R2):Prop :=
 ∀ (value slice:Expr) (pins:List (Addr×Obj)) (s:Shared) (σ:St) (H:Hp) (x y:V) (v u:Value) (Q:VK),Inv X pins σ H s→RelV x v→RelV y u→r x y H Q →
  subscripted slice false v u=operate [v,u] (getItem v u)→wpAny (model X.prog X.w) X.A (subscriptTail value slice v u) (EP X pins σ Q) X.xe s
def MtR (X:Cx) (id:String) (r:V→List V→Hp→VK→Prop):Prop :=
 ∀ (pins:List (Addr×Obj)) (s:Shared) (σ:St) (H:Hp) (x:V) (xs:List V) (v:Value) (us:List Value) (Q:VK),Inv X pins σ H s→RelV x v→Vals xs us→r x xs H Q →
  wpAny (model X.prog X.w) X.A (call (.builtin id) (v::us)) (EP X pins σ Q) X.xe s
section
variable {X:Cx} {a b:Expr} {ta tb:TE} {pos:Pos}
theorem pe_ix {r:R2} (hr:IxR X r) (ha:PE X a ta) (hb:PE X b tb) (hs:PlainIx b):PE X (.Subscript a b pos) (tOp r ta tb):=by
 intro pins s σ H Q I h
 exact Subscript_ (binT ha hb I h fun v u s2 x y H2 I2 rx ry q=>hr a b pins s2 σ H2 x y v u Q I2 rx ry q (hs _ _))
def rIxL (K:PySem.W.Frag):R2:=fun x y H Q=>∃ p xs i v,x=.ref p∧y=.int i∧SqL K H p xs∧atI xs i=some v∧Q v H
def rIxT (K:PySem.W.Frag):R2:=fun x y H Q=>∃ p xs i v,x=.ref p∧y=.int i∧SqT K H p xs∧atI xs i=some v∧Q v H
def rIxS:R2:=fun x y H Q=>∃ z i c,x=.str z∧y=.int i∧z.length≤sizeLine∧atI z.cps.toList i=some c∧Q (.str ⟨#[c]⟩) H
theorem ix_list:IxR X (rIxL X.K):=by
 intro value slice pins s σ H x y v u Q I rx ry h hs
 obtain ⟨p,xs,i,z,rfl,rfl,hq,he,q⟩:=h
 cases rx
 obtain ⟨t,rfl⟩:=ry
 obtain ⟨its,r,pl,hz⟩:=I.list hq
 obtain ⟨j,h1,h2,h3,h4,h5⟩:=atI_get he
 obtain ⟨w,ew,rw'⟩:=r.get h2
 have hl:=r.length
 have hn:=line63
 have fin:EP X pins σ Q w s:=⟨z,H,I,rw',q⟩
 by_cases h0:0≤i
 ·have hj:i.toNat=j:=by
   rw [seqIndex_of h0 h5] at h1
   exact Option.some.inj h1
  exact item_listR pl.isList h0 (by omega) (by rw [hj]; simpa using ew) fin hs
 ·have hj:(i + (its.toArray.size:Int)).toNat=j:=by
   rw [seqIndex_neg (by omega) h4] at h1
   rw [List.size_toArray,←hl]
   exact Option.some.inj h1
  exact subscriptTail_builtinR (x:=w) pl.isList.typeIs slot_list_getitem.lookup
   (wpAny_getItem_list_neg (Q:=fun r s'=>r=w∧EP X pins σ Q r s') pl.isList (by omega) (by rw [List.size_toArray] <;> omega) (by omega) (by rw [hj]; simpa using ew) ⟨rfl,fin⟩) hs
theorem ix_tup:IxR X (rIxT X.K):=by
 intro value slice pins s σ H x y v u Q I rx ry h hs
 obtain ⟨p,xs,i,z,rfl,rfl,hq,he,q⟩:=h
 cases rx
 obtain ⟨t,rfl⟩:=ry
 obtain ⟨its,r,pl,hz⟩:=I.tuple hq
 obtain ⟨j,h1,h2,h3,h4,h5⟩:=atI_get he
 obtain ⟨w,ew,rw'⟩:=r.get h2
 have hl:=r.length
 have hn:=line63
 have fin:EP X pins σ Q w s:=⟨z,H,I,rw',q⟩
 exact subscriptTail_builtinR (x:=w) pl.typeIs slot_tuple_getitem.lookup
  (getItem_tuple (j:=j) (Q:=fun r s'=>r=w∧EP X pins σ Q r s') pl (by omega) (by omega) (by rw [List.size_toArray,←hl]; exact h1) (by simpa using ew) ⟨rfl,fin⟩) hs
theorem ix_str:IxR X rIxS:=by
 intro value slice pins s σ H x y v u Q I rx ry h hs
 obtain ⟨z,i,c,rfl,rfl,hz,he,q⟩:=h
 obtain ⟨t,rfl⟩:=rx
 obtain ⟨t',rfl⟩:=ry
 obtain ⟨j,h1,h2,h3,h4,h5⟩:=atI_get he
 have hl:z.cps.toList.length=z.length:=by simp [Str.length]
 rw [hl] at h1 h4 h5
 have hn:=line63
 exact tail_any (typeIs_str s z t) slot_str_getitem.lookup (getItem_str (c:=c) (by
  have e1:decide (i < -(2 ^ 63:Int))=false:=decide_eq_false (by omega)
  have e2:decide (i ≥ 2 ^ 63)=false:=decide_eq_false (by omega)
  rw [e1,e2,Bool.or_false]) (by rw [h1]; simpa using h2) ⟨.str ⟨#[c]⟩,H,I.tok _,⟨_,rfl⟩,q⟩) hs
theorem slice_bounds (lo hi:Option Int) (n:Nat):(sliceBounds lo hi none n).1=((HT.sIx n 0 lo:Nat):Int)∧(sliceBounds lo hi none n).2.1=((HT.sIx n n hi:Nat):Int)∧(sliceBounds lo hi none n).2.2=1:=by
 refine ⟨?_,?_,rfl⟩
 ·cases lo with
  | none=>simp [sliceBounds,HT.sIx]
  | some i =>
   simp only [sliceBounds,HT.sIx,Option.getD_none,show (1:Int) > 0 by decide,if_true]
   by_cases h:i < 0
   ·simp only [h,if_true] <;> omega
   ·simp only [h,if_false] <;> omega
 ·cases hi with
  | none=>simp [sliceBounds,HT.sIx]
  | some i =>
   simp only [sliceBounds,HT.sIx,Option.getD_none,show (1:Int) > 0 by decide,if_true]
   by_cases h:i < 0
   ·simp only [h,if_true] <;> omega
   ·simp only [h,if_false] <;> omega
theorem slicePick_cut (its:List Value) (lo hi:Option Int):slicePick its.toArray lo hi none=((its.drop (HT.sIx its.length 0 lo)).take (HT.sIx its.length its.length hi - HT.sIx its.length 0 lo)).toArray:=by
 obtain ⟨h1,h2,h3⟩:=slice_bounds lo hi its.toArray.size
 unfold slicePick
 rw [h1,h2,h3]
 simp only [sliceRange_one,pick_run,List.size_toArray] <;> rfl
def rSlL (K:PySem.W.Frag):V→Option Int→Option Int→Hp→VK→Prop:=fun x lo hi H Q=>∃ a xs,x=.ref a∧SqL K H a xs∧∀ p,H p=none→Q (.ref p) (upd H p (.lst (cutV xs lo hi)))
theorem sl_list:SlR X (rSlL X.K):=by
 intro pins s σ H x v vl vu lo hi sl Q I rx hs pl pu h
 obtain ⟨a,xs,rfl,hx,q⟩:=h
 cases rx
 obtain ⟨its,r,ht,hz⟩:=I.list hx
 have hlen:=r.length
 refine ⟨"list",_,slot_list_getitem.lookup,ht.isList.typeIs,?_⟩
 refine wpAny_getItem_list_slice ht.isList hs pl pu .none (by simp) ?_ (by rw [List.size_toArray] <;> omega)
 rw [slicePick_cut,←hlen]
 refine ⟨.ref s.heap.objs.size,_,I.laid (t':=s.toks) (o:=.lst (cutV xs lo hi)) (fun b ob q=>Heap.get?_push_of_some _ q) (Nat.le_refl _) ?_,rfl,q _ (I.hok.fresh (Nat.le_refl _))⟩
 exact ⟨Nat.le_trans (cutV_length xs lo hi) hz,_,0,(r.drop (HT.sIx xs.length 0 lo)).take (HT.sIx xs.length xs.length hi - HT.sIx xs.length 0 lo),Heap.get?_push_size _ rfl⟩
def flatV:V→Bool
 | .non=>true
 | .bl _=>true
 | .int _=>true
 | .str _=>true
 | _=>false
def eqV:V→V→Bool
 | .non,.non=>true
 | .bl a,.bl b=>a==b
 | .bl a,.int b=>(if a then 1 else 0)==b
 | .int a,.bl b=>a==(if b then 1 else 0)
 | .int a,.int b=>a==b
 | .str a,.str b=>a==b
 | _,_=>false
theorem eqAt_V {A:Around} {s:Shared} {y x:V} {u v:Value} (ry:RelV y u) (rx:RelV x v) (fy:flatV y=true) (fx:flatV x=true):SeqAt.EqAt A s u v (eqV y x):=by
 cases y with
 | non =>
  cases ry
  cases x with
  | non=>cases rx; exact SeqAt.EqAt.same _
  | bl b=>cases rx; exact SeqAt.EqAt.none_bool b
  | int b=>obtain ⟨t,rfl⟩:=rx; exact SeqAt.EqAt.none_int b t
  | str b=>obtain ⟨t,rfl⟩:=rx; exact SeqAt.EqAt.none_str b t
  | _=>exact absurd (show false=true from fx) Bool.false_ne_true
 | bl a =>
  cases ry
  cases x with
  | non=>cases rx; exact SeqAt.EqAt.bool_none a
  | bl b=>cases rx; exact SeqAt.EqAt.bool_bool a b
  | int b=>obtain ⟨t,rfl⟩:=rx; exact SeqAt.EqAt.bool_int a b t
  | str b=>obtain ⟨t,rfl⟩:=rx; exact SeqAt.EqAt.bool_str a b t
  | _=>exact absurd (show false=true from fx) Bool.false_ne_true
 | int a =>
  obtain ⟨t',rfl⟩:=ry
  cases x with
  | non=>cases rx; exact SeqAt.EqAt.int_none a t'
  | bl b=>cases rx; exact SeqAt.EqAt.int_bool a t' b
  | int b=>obtain ⟨t,rfl⟩:=rx; exact SeqAt.EqAt.int_int a t' b t
  | str b=>obtain ⟨t,rfl⟩:=rx; exact SeqAt.EqAt.int_str a t' b t
  | _=>exact absurd (show false=true from fx) Bool.false_ne_true
 | str a =>
  obtain ⟨t',rfl⟩:=ry
  cases x with
  | non=>cases rx; exact SeqAt.EqAt.str_none a t'
  | bl b=>cases rx; exact SeqAt.EqAt.str_bool a t' b
  | int b=>obtain ⟨t,rfl⟩:=rx; exact SeqAt.EqAt.str_int a t' b t
  | str b=>obtain ⟨t,rfl⟩:=rx; exact SeqAt.EqAt.str_str a t' b t
  | _=>exact absurd (show false=true from fx) Bool.false_ne_true
 | _=>exact absurd (show false=true from fy) Bool.false_ne_true
def eqU (x:V) (u:Value):Bool:=match u with
 | .none=>eqV .non x
 | .bool b=>eqV (.bl b) x
 | .int i _=>eqV (.int i) x
 | .str z _=>eqV (.str z) x
 | _=>false
theorem eqU_of {x y:V} {u:Value} (r:RelV y u) (f:flatV y=true):eqU x u=eqV y x:=by
 cases y with
 | non=>cases r; rfl
 | bl b=>cases r; rfl
 | int i=>obtain ⟨t,rfl⟩:=r; rfl
 | str z=>obtain ⟨t,rfl⟩:=r; rfl
 | _=>exact absurd (show false=true from f) Bool.false_ne_true
theorem any_eqU {x:V}:∀ {xs:List V} {us:List Value},Vals xs us→xs.all flatV=true→us.any (eqU x)=xs.any fun y=>eqV y x
 | _,_,.nil,_=>rfl
 | y::xs,u::us,.cons r t,f=>by
  rw [List.all_cons,Bool.and_eq_true] at f
  rw [List.any_cons,List.any_cons,eqU_of r f.1,any_eqU t f.2]
theorem mem_eqAt {A:Around} {s:Shared} {x:V} {v:Value} (rx:RelV x v) (fx:flatV x=true):∀ {xs:List V} {us:List Value},Vals xs us→xs.all flatV=true→∀ u∈us,SeqAt.EqAt A s u v (eqU x u)
 | _,_,.nil,_=>fun u hu=>by cases hu
 | y::xs,u::us,.cons r t,f=>fun u' hu=>by
  rw [List.all_cons,Bool.and_eq_true] at f
  rcases List.mem_cons.mp hu with rfl | hu
  ·rw [eqU_of r f.1]; exact eqAt_V r rx f.1 fx
  ·exact mem_eqAt rx fx t f.2 u' hu
def inV (x:V) (xs:List V):Bool:=xs.any fun y=>eqV y x
def rIn (K:PySem.W.Frag) (neg:Bool):R2:=fun x y H Q=>∃ p xs,y=.ref p∧(SqL K H p xs∨SqT K H p xs)∧flatV x=true∧xs.all flatV=true∧Q (.bl (if neg then !inV x xs else inV x xs)) H
theorem op_in_seq:OpR X (compareOp .In) (rIn X.K false):=by
 intro pins s σ H x y v u Q I rx ry h
 obtain ⟨p,xs,rfl,hq,fx,fs,q⟩:=h
 cases ry
 rcases hq with hq | hq
 ·obtain ⟨its,r,pl,hz⟩:=I.list hq
  refine SeqAt.in_listAt (eqU x) pl.isList (fun w hw=>mem_eqAt rx fx r fs w (by simpa using hw)) ⟨.bl _,H,I,rfl,?_⟩
  rw [show its.toArray.any (eqU x)=its.any (eqU x) by simp,any_eqU r fs]
  exact q
 ·obtain ⟨its,r,pl,hz⟩:=I.tuple hq
  refine SeqAt.in_tupleAt (eqU x) pl (fun w hw=>mem_eqAt rx fx r fs w (by simpa using hw)) ⟨.bl _,H,I,rfl,?_⟩
  rw [show its.toArray.any (eqU x)=its.any (eqU x) by simp,any_eqU r fs]
  exact q
theorem op_notIn_seq:OpR X (compareOp .NotIn) (rIn X.K true):=by
 intro pins s σ H x y v u Q I rx ry h
 obtain ⟨p,xs,rfl,hq,fx,fs,q⟩:=h
 cases ry
 rcases hq with hq | hq
 ·obtain ⟨its,r,pl,hz⟩:=I.list hq
  refine SeqAt.notIn_listAt (eqU x) pl.isList (fun w hw=>mem_eqAt rx fx r fs w (by simpa using hw)) ⟨.bl _,H,I,rfl,?_⟩
  rw [show its.toArray.any (eqU x)=its.any (eqU x) by simp,any_eqU r fs]
  exact q
 ·obtain ⟨its,r,pl,hz⟩:=I.tuple hq
  refine SeqAt.notIn_tupleAt (eqU x) pl (fun w hw=>mem_eqAt rx fx r fs w (by simpa using hw)) ⟨.bl _,H,I,rfl,?_⟩
  rw [show its.toArray.any (eqU x)=its.any (eqU x) by simp,any_eqU r fs]
  exact q
theorem call_len_seq:CallR X (.builtin "len") (fun xs H Q=>∃ p ys,xs=[.ref p]∧(SqL X.K H p ys∨SqT X.K H p ys)∧Q (.int ys.length) H):=by
 intro pins s σ H xs us Q I r h
 obtain ⟨p,ys,rfl,hq,q⟩:=h
 obtain ⟨u,rfl,rx⟩:=vals1 r
 cases rx
 have hn:=line63
 rcases hq with hq | hq
 ·obtain ⟨its,r',pl,hz⟩:=I.list hq
  have hlen:=r'.length
  exact Calls.call_len_list pl.isList (by simp only [List.size_toArray] <;> omega) ⟨.int ys.length,H,I.tok _,⟨s.toks + 1,by rw [List.size_toArray,hlen]⟩,q⟩
 ·obtain ⟨its,r',pl,hz⟩:=I.tuple hq
  have hlen:=r'.length
  exact len_tuple pl (by simp only [List.size_toArray] <;> omega) ⟨.int ys.length,H,I.tok _,⟨s.toks + 1,by rw [List.size_toArray,hlen]⟩,q⟩
theorem call_len_str:CallR X (.builtin "len") (fun xs H Q=>∃ z,xs=[.str z]∧z.length≤sizeLine∧Q (.int z.length) H):=by
 intro pins s σ H xs us Q I r h
 obtain ⟨z,rfl,hz,q⟩:=h
 obtain ⟨u,rfl,t,rfl⟩:=vals1 r
 have hn:=line63
 exact len_str (by omega) ⟨.int z.length,H,I.tok _,⟨_,rfl⟩,q⟩
theorem call_list_of:CallR X (.type "list") (fun xs H Q=>∃ p ys,xs=[.ref p]∧(SqL X.K H p ys∨SqT X.K H p ys)∧∀ l,H l=none→Q (.ref l) (upd H l (.lst ys))):=by
 intro pins s σ H xs us Q I r h
 obtain ⟨p,ys,rfl,hq,q⟩:=h
 obtain ⟨u,rfl,rx⟩:=vals1 r
 cases rx
 have fin:∀ (its:List Value),Vals ys its→ys.length≤sizeLine→∀ (h':Heap) (c':Nat),(∀ b o',s.heap.get? b=some o'→h'.get? b=some o') →
   h'.get? s.heap.objs.size=some { cls:=.type "list",dict:=none,data:=.seq its.toArray c',slots:=#[] }→EP X pins σ Q (.ref s.heap.objs.size) { s with heap:=h' }:=fun its r' hz h' c' kp e =>
  ⟨.ref s.heap.objs.size,_,I.laid (t':=s.toks) kp (Nat.le_refl _) (show ObjOk X.prog X.w _ h' _ (.lst ys) from ⟨hz,its,c',r',e⟩),rfl,q _ (I.hok.fresh (Nat.le_refl _))⟩
 rcases hq with hq | hq
 ·obtain ⟨its,r',pl,hz⟩:=I.list hq
  have hlen:=r'.length
  obtain ⟨o,ho,hc,n,hd⟩:=pl.isList
  exact call_list_seq p (.inl rfl) ho hc hd (fun h' c' kp e=>fin its r' hz h' c' kp e) (by simp only [List.size_toArray] <;> omega)
 ·obtain ⟨its,r',pl,hz⟩:=I.tuple hq
  have hlen:=r'.length
  obtain ⟨o,ho,hc,n,hd⟩:=pl
  exact call_list_seq p (.inr rfl) ho hc hd (fun h' c' kp e=>fin its r' hz h' c' kp e) (by simp only [List.size_toArray] <;> omega)
def tyV (K:PySem.W.Frag) (T:String) (x:V) (H:Hp):Prop:=match x with
 | .str _=>T="str"
 | .int _=>T="int"
 | .ref p=>(T="list"∧∃ xs,SqL K H p xs)∨(T="tuple"∧∃ o,K.lookup p=some o∧o.cls=.type "tuple"∧o.dict=none) ∨
   (T="dict"∧((∃ kvs,H p=some (.dK kvs))∨∃ kvs,H p=some (.dT kvs)))∨(T="set"∧∃ S n,H p=some (.set S n))
 | _=>False
theorem tyV_is {pins:List (Addr×Obj)} {σ:St} {H:Hp} {s:Shared} {T:String} {x:V} {v:Value} (I:Inv X pins σ H s) (r:RelV x v) (ty:tyV X.K T x H) :
  s.TypeIs v T∧∀ a,v=.ref a→∃ ob,s.heap.get? a=some ob∧ob.dict=none:=by
 cases x with
 | str z =>
  obtain ⟨t,rfl⟩:=r
  cases (show T="str" from ty)
  exact ⟨typeIs_str s z t,fun _ e=>nomatch e⟩
 | int i =>
  obtain ⟨t,rfl⟩:=r
  cases (show T="int" from ty)
  exact ⟨typeIs_int s i t,fun _ e=>nomatch e⟩
 | ref p =>
  cases r
  rcases ty with ⟨rfl,xs,hq⟩ | ⟨rfl,o,hk,hc,hd⟩ | ⟨rfl,hk⟩ | ⟨rfl,S,n,hk⟩
  ·obtain ⟨its,_,pl,_⟩:=I.list hq
   refine ⟨pl.isList.typeIs,fun a e=>?_⟩
   cases e
   obtain ⟨o,n,e,c,hd,_⟩:=pl
   exact ⟨o,e,hd⟩
  ·refine ⟨⟨o,I.kIn p o hk,hc⟩,fun a e=>?_⟩
   cases e
   exact ⟨o,I.kIn _ o hk,hd⟩
  ·have z:∃ o,s.heap.get? p=some o∧o.ExactDict:=by
    rcases hk with ⟨kvs,hk⟩ | ⟨kvs,hk⟩
    ·obtain ⟨_,_,_,_,o,_,_,e,ex,_⟩:=I.hok p _ hk
     exact ⟨o,e,ex⟩
    ·obtain ⟨_,_,_,_,o,_,_,e,ex,_⟩:=I.hok p _ hk
     exact ⟨o,e,ex⟩
   obtain ⟨o,e,ex⟩:=z
   refine ⟨⟨o,e,ex.1⟩,fun a e2=>?_⟩
   cases e2
   exact ⟨o,e,ex.2.1⟩
  ·obtain ⟨o,_,_,_,e,ex,_⟩:=I.hok p _ hk
   refine ⟨⟨o,e,ex.1⟩,fun a e2=>?_⟩
   cases e2
   exact ⟨o,e,ex.2.1⟩
 | _=>exact False.elim ty
def tBM (K:PySem.W.Frag) (T:String) (r:V→List V→Hp→VK→Prop) (to:TE) (t:TA):TE:=fun σ H Q=>to σ H fun x H1=>tyV K T x H1∧t σ H1 fun xs H2=>r x xs H2 Q
variable {o e:Expr} {es:List Expr} {to:TE} {t:TA} {name:Str} {apos cpos:Pos} {T id:String} {r:V→List V→Hp→VK→Prop}
theorem pe_bm (pa:PlainAttrs T) (slot:Slot T name id) (hty:typeOf (.builtin id)=pure (.type "method_descriptor")) (hm:MtR X id r) (ho:PE X o to) (ha:PA X (e::es) t)
  (hbase:attributeBase o name X.env (eval o X.env)=eval o X.env:=by rfl)
  (hfew:((backTo cpos (starEach (e::es) X.env)).all (fun x=>!x.1) && (backToKw cpos (keywordEach [] X.env)).all (fun x=>x.1.isSome)
   && decide ((e::es).length + ([]:List Keyword).length + (if ([]:List Keyword).isEmpty then 0 else 1) < 30))=true:=by rfl)
  (hline:(apos.endLine==cpos.line)=true:=by rfl) (hs:starEach (e::es) X.env=(false,eval e X.env)::starEach es X.env:=by rfl) (hplain:(backTo cpos (starEach es X.env)).any (·.1)=false:=by rfl) :
  PE X (.Call (.Attribute o name apos) (e::es) [] cpos) (tBM X.K T r to t):=by
 intro pins s σ H Q I h
 refine wpAny_Call_method_late hbase hfew hline rfl (thn (ho pins s σ H _ I h) fun v s1 ⟨x,H1,I1,r1,ty,q1⟩=>?_)
 obtain ⟨h1,h2⟩:=tyV_is I1 r1 ty
 refine ⟨T,id,pa,slot,hty,h1,h2,?_⟩
 have hA:=ha cpos pins s1 σ H1 _ I1 q1
 rw [hs] at hA ⊢
 refine Calls.callWith_builtin (by show (false || (backTo cpos (starEach es X.env)).any (·.1))=false; rw [hplain] <;> rfl) (Calls.evalArgs_plain ?_)
 exact thn hA fun us s2 ⟨vs,H2,I2,r2,q2⟩=>hm pins s2 σ H2 x vs v us Q I2 r1 r2 q2
end
end L2
namespace L2
open PySem PySem.Spec PyProof.Rows
def MtM (X:Cx) (id:String) (r:V→List V→Hp→VK→Prop):Prop :=
 ∀ (pins:List (Addr×Obj)) (s:Shared) (σ:St) (H:Hp) (x:V) (xs:List V) (v:Value) (us:List Value) (Q:VK),Inv X pins σ H s→RelV x v→Vals xs us→r x xs H Q →
  wpAny (model X.prog X.w) X.A (call (.builtin id) (v::us)) (EP X pins σ Q) X.xe s
theorem Vals.one:∀ {x:V} {us:List Value},Vals [x] us→∃ u,us=[u]∧RelV x u
 | _,_,.cons r .nil=>⟨_,rfl,r⟩
theorem Vals.reverse {xs:List V} {us:List Value} (h:Vals xs us):Vals xs.reverse us.reverse:=by
 induction h with
 | nil=>exact .nil
 | cons r t ih=>rw [List.reverse_cons,List.reverse_cons]; exact Vals.append ih (.cons r .nil)
section
variable {X:Cx} {pins:List (Addr×Obj)} {σ:St} {H:Hp} {s:Shared} {l b:Addr} {xs ys zs:List V}
theorem Inv.lset {its its':List Value} {n:Nat} {f:Array Value→Array Value} {t':Nat} (I:Inv X pins σ H s) (hH:H l=some (.lst xs))
  (e:s.heap.get? l=some { cls:=.type "list",data:=.seq its.toArray n }) (hf:f its.toArray=its'.toArray) (hv:Vals ys its') (hz:ys.length≤sizeLine) :
  Inv X pins σ (upd H l (.lst ys)) { s with heap:=s.heap.update l (Obj.mapSeq f),toks:=t' }:=by
 have q:=PySem.IsL.update e f
 rw [hf] at q
 refine I.write (x:=l) (e:=l) (by rw [hH]; exact trivial) (.inl rfl) (fun b' u hb hu=>(Heap.get?_update_other s.heap (Obj.mapSeq f) (Ne.symm hb)).trans hu) ⟨_,q⟩ ?_
 exact ⟨hz,its',_,hv,q⟩
theorem Inv.lnew {its:List Value} {t':Nat} (I:Inv X pins σ H s) (hv:Vals ys its) (hz:ys.length≤sizeLine) :
  Inv X pins σ (upd H s.heap.objs.size (.lst ys)) { s with heap:=s.heap.push { cls:=.type "list",data:=.seq its.toArray },toks:=t' } :=
 I.laid (fun _ _ q=>Heap.get?_push_of_some _ q) (Nat.le_refl _) ⟨hz,its,0,hv,Heap.get?_push_size _ rfl⟩
theorem Inv.fresh (I:Inv X pins σ H s):H s.heap.objs.size=none:=I.hok.fresh (Nat.le_refl _)
theorem Inv.lstM (I:Inv X pins σ H s) (hH:H l=some (.lst xs)):xs.length≤sizeLine∧∃ (its:List Value) (n:Nat),Vals xs its∧xs.length=its.length∧s.heap.get? l=some { cls:=.type "list",data:=.seq its.toArray n }:=by
 obtain ⟨z,its,n,r,e⟩:=I.hok l _ hH
 exact ⟨z,its,n,r,r.length,e⟩
theorem notLongL {n:Nat} (h:n≤sizeLine):Builtin.List.listTooLong n=false:=by
 unfold Builtin.List.listTooLong
 exact decide_eq_false (by omega)
end
section
variable {X:Cx}
def rAppend:V→List V→Hp→VK→Prop:=fun x vs H Q=>∃ l xs y,x=.ref l∧vs=[y]∧H l=some (.lst xs)∧xs.length < sizeLine∧Q .non (upd H l (.lst (xs++[y])))
theorem mt_append:MtM X "list.append" rAppend:=by
 intro pins s σ H x vs v us Q I rx rv h
 obtain ⟨l,xs,y,rfl,rfl,hH,hz,q⟩:=h
 cases rx
 obtain ⟨u,rfl,ru⟩:=rv.one
 obtain ⟨z,its,n,r,hl,e⟩:=I.lstM hH
 refine call_meets F.slot_list_append ⟨_,e,rfl⟩ F.entry_list_append (F.args_list_append_2 _ _) (PySem.list_append l its.toArray n u (by rw [List.size_toArray]; omega)) ⟨e,?_⟩
 refine ⟨.non,_,I.lset (its':=its++[u]) hH e (by simp) (r.append (.cons ru .nil)) ?_,rfl,q⟩
 rw [List.length_append,List.length_singleton]
 omega
def rExtend:V→List V→Hp→VK→Prop:=fun x vs H Q=>∃ l b xs zs,x=.ref l∧vs=[.ref b]∧H l=some (.lst xs)∧H b=some (.lst zs)∧xs.length + zs.length≤sizeLine∧Q .non (upd H l (.lst (xs++zs)))
theorem mt_extend:MtM X "list.extend" rExtend:=by
 intro pins s σ H x vs v us Q I rx rv h
 obtain ⟨l,b,xs,zs,rfl,rfl,hH,hB,hz,q⟩:=h
 cases rx
 obtain ⟨u,rfl,ru⟩:=rv.one
 cases ru
 obtain ⟨z,its,n,r,hl,e⟩:=I.lstM hH
 obtain ⟨z2,its2,n2,r2,hl2,e2⟩:=I.lstM hB
 have hsz:its.toArray.size + its2.toArray.size≤sizeLine:=by rw [List.size_toArray,List.size_toArray]; omega
 have hlong:¬ (!its.toArray.isEmpty && Builtin.List.listTooLong (its.toArray.size + its2.toArray.size))=true:=by
  rw [notLongL hsz,Bool.and_false]
  exact Bool.false_ne_true
 refine call_meets F.slot_list_extend ⟨_,e,rfl⟩ F.entry_list_extend (F.args_list_extend_2 _ _)
  (AutoSeq1.list_extend_list_list_0 l its.toArray n b its2.toArray n2 hlong (by rw [List.size_toArray]; omega) (by omega)) ⟨e,e2,?_⟩
 refine ⟨.non,_,I.lset (its':=its++its2) hH e (by simp) (r.append r2) ?_,rfl,q⟩
 rw [List.length_append]
 omega
def rCat:R2:=fun x y H Q=>∃ l b xs zs,x=.ref l∧y=.ref b∧H l=some (.lst xs)∧H b=some (.lst zs)∧xs.length + zs.length≤sizeLine∧∀ p,H p=none→Q (.ref p) (upd H p (.lst (xs++zs)))
theorem op_cat:OpR X (binaryOp .Add) rCat:=by
 intro pins s σ H x y v u Q I rx ry h
 obtain ⟨l,b,xs,zs,rfl,rfl,hH,hB,hz,q⟩:=h
 cases rx
 cases ry
 obtain ⟨z,its,n,r,hl,e⟩:=I.lstM hH
 obtain ⟨z2,its2,n2,r2,hl2,e2⟩:=I.lstM hB
 refine PySem.P.add_list e e2 ?_ (by rw [List.size_toArray,List.size_toArray]; omega)
 have ea:its.toArray++its2.toArray=(its++its2).toArray:=by simp
 rw [ea]
 exact ⟨.ref _,_,I.lnew (t':=s.toks) (r.append r2) (by rw [List.length_append]; omega),rfl,q _ I.fresh⟩
end
section
variable {prog:Program} {w:World} {A:Around} {E:Value→Shared→Prop} {s:Shared}
end
section
variable {X:Cx}
end
end L2
namespace L2
open PySem PySem.Spec PyProof.Rows
theorem Vals.ints:∀ {ns:List Int} {us:List Value},Vals (ns.map V.int) us→IntsAre us ns
 | [],us,h=>by
  rw [List.map_nil] at h
  cases h
  exact IntsAre.nil
 | n::ns,us,h=>by
  rw [List.map_cons] at h
  cases h with
  | cons r t =>
   obtain ⟨k,rfl⟩:=r
   exact IntsAre.cons n k (Vals.ints t)
theorem vals_of_ints:∀ {us:List Value} {ns:List Int},IntsAre us ns→Vals (ns.map V.int) us
 | _,_,.nil=>by rw [List.map_nil]; exact Paired.nil
 | _,_,.cons n t h=>by rw [List.map_cons]; exact Paired.cons (show RelV (V.int n) (Value.int n t) from ⟨t,rfl⟩) (vals_of_ints h)
theorem Vals.ref1 {a:Addr} {us:List Value} (r:Vals [V.ref a] us):us=[Value.ref a]:=by
 cases r with
 | cons r t =>
  cases t
  cases r
  rfl
section
variable {prog:Program} {w:World} {A:Around} {E:Value→Shared→Prop} {s:Shared} {l:Addr} {its:List Value} {ns:List Int} {Q:Value→Shared→Prop}
theorem sum_raw (hh:A.handled=none) (hl:s.heap.IsList l its.toArray) (hi:IntsAre its ns)
  (h:∀ h' tk t',(∀ b o,s.heap.get? b=some o→h'.get? b=some o)→Q (.int ns.sum t') { s with heap:=h',toks:=tk }):wpAny (model prog w) A (call (.builtin "sum") [.ref l]) Q E s:=by
 obtain ⟨xs,e⟩:=hi.allInts.items
 have hn:numsOf (intItems xs).toList=ns:=by rw [←e]; exact hi.numsOf
 rw [nums_intItems] at hn
 rw [e] at hl
 refine PySem.sum_intListG hh hl fun h' tk t' hk=>?_
 have:=h h' tk t' hk
 rw [preSum_eq,List.take_of_length_le (by simp),hn]; exact this
end
section
variable {X:Cx}
def rSum (K:PySem.W.Frag):List V→Hp→VK→Prop:=fun vs H Q=>∃ (a:Addr) (ns:List Int),vs=[V.ref a]∧SqL K H a (ns.map V.int)∧Q (.int ns.sum) H
theorem cr_sum (hc:X.calm=true):CallR X (.builtin "sum") (rSum X.K):=by
 intro pins s σ H vs us Q I r h
 obtain ⟨a,ns,rfl,hs,q⟩:=h
 obtain ⟨its,rv,hl,_⟩:=I.list hs
 rw [Vals.ref1 r]
 exact sum_raw (I.ok.hd hc) hl.isList rv.ints fun h' tk t' hk=>⟨.int _,H,I.kept hk,⟨_,rfl⟩,q⟩
def rSorted (K:PySem.W.Frag):List V→Hp→VK→Prop:=fun vs H Q=>∃ (a:Addr) (ns:List Int),vs=[V.ref a]∧SqL K H a (ns.map V.int)∧ns.length < 64 ∧
 ∀ (ns':List Int) (p:Addr),ns'.Perm ns→ns'.Pairwise (·≤·)→H p=none→Q (.ref p) (upd H p (.lst (ns'.map V.int)))
theorem small64 {n:Nat} (h:n < 64):n≤sizeLine:=by rw [sizeLine_eq]; omega
theorem cr_sorted:CallR X (.builtin "sorted") (rSorted X.K):=by
 intro pins s σ H vs us Q I r h
 obtain ⟨a,ns,rfl,hs,h64,q⟩:=h
 obtain ⟨its,rv,hl,_⟩:=I.list hs
 rw [Vals.ref1 r]
 have hi:=rv.ints
 refine PyProof.Rows.sorted_ints hl.isList hi (by rw [hi.length]; exact h64) fun out ns' h1 h2 h3=>?_
 obtain ⟨ep,he'⟩:=PyProof.Rows.sortedAll_at s.heap its out
 have hlen:(ns'.map V.int).length≤sizeLine:=by rw [List.length_map,h2.length_eq]; exact small64 h64
 exact ⟨.ref _,upd H (s.heap.objs.size + 1) (.lst (ns'.map V.int)),I.laid (t':=s.toks) (fun _ _=>PyProof.Rows.sortedAll_old) (Nat.le_succ _) ⟨hlen,out.toList,ep,vals_of_ints h1,he'⟩,rfl,q ns' _ h2 h3 (I.hok.fresh (Nat.le_succ _))⟩
end
section
variable {X:Cx}
end
section
variable {X:Cx}
end
section
variable {X:Cx}
end
mutual
inductive Dp (K:PySem.W.Frag) (H:Hp):V→PyData→Prop
 | non:Dp K H .non .none
 | bl (b:Bool):Dp K H (.bl b) (.bool b)
 | int (i:Int):Dp K H (.int i) (.int i)
 | str (x:Str):Dp K H (.str x) (.str x)
 | lst {a:Addr} {xs:List V} {ds:List PyData}:SqL K H a xs→DpAll K H xs ds→Dp K H (.ref a) (.list ds)
 | tup {a:Addr} {xs:List V} {ds:List PyData}:SqT K H a xs→DpAll K H xs ds→Dp K H (.ref a) (.tuple ds)
inductive DpAll (K:PySem.W.Frag) (H:Hp):List V→List PyData→Prop
 | nil:DpAll K H [] []
 | cons {v:V} {vs:List V} {d:PyData} {ds:List PyData}:Dp K H v d→DpAll K H vs ds→DpAll K H (v::vs) (d::ds)
end
section
variable {X:Cx} {pins:List (Addr×Obj)} {σ:St} {H:Hp} {s:Shared}
mutual
theorem Dp.reads (I:Inv X pins σ H s):∀ (d:PyData) (v:V) (u:Value),Dp X.K H v d→RelV v u→∃ as,Reads s.heap u d as
 | .none,_,_,h,r=>by
  cases h
  cases r
  exact ⟨_,Reads.none⟩
 | .bool b,_,_,h,r=>by
  cases h
  cases r
  exact ⟨_,Reads.bool b⟩
 | .int i,_,_,h,r=>by
  cases h
  obtain ⟨t,rfl⟩:=r
  exact ⟨_,Reads.int i t⟩
 | .str x,_,_,h,r=>by
  cases h
  obtain ⟨t,rfl⟩:=r
  exact ⟨_,Reads.str x t⟩
 | .list ds,_,_,h,r=>by
  cases h with
  | lst hs ha =>
   cases r
   obtain ⟨its,rv,⟨o,n,ho,hc,_,hd⟩,_⟩:=I.list hs
   obtain ⟨as,hr⟩:=Dp.readsAll I ds _ its ha rv
   exact ⟨_,Reads.list ho hc hd hr⟩
 | .tuple ds,_,_,h,r=>by
  cases h with
  | tup hs ha =>
   cases r
   obtain ⟨its,rv,⟨o,ho,hc,n,hd⟩,_⟩:=I.tuple hs
   obtain ⟨as,hr⟩:=Dp.readsAll I ds _ its ha rv
   exact ⟨_,Reads.tuple ho hc hd hr⟩
 | .dict _,_,_,h,_=>by cases h
theorem Dp.readsAll (I:Inv X pins σ H s):∀ (ds:List PyData) (vs:List V) (us:List Value),DpAll X.K H vs ds→Vals vs us→∃ as,ReadsAll s.heap us ds as
 | [],_,_,h,r=>by
  cases h
  cases r
  exact ⟨_,ReadsAll.nil⟩
 | d::ds,_,_,h,r=>by
  cases h with
  | cons h1 h2 =>
   cases r with
   | cons r1 r2 =>
    obtain ⟨as,q1⟩:=Dp.reads I d _ _ h1 r1
    obtain ⟨bs,q2⟩:=Dp.readsAll I ds _ _ h2 r2
    exact ⟨_,ReadsAll.cons q1 q2⟩
end
end
section
variable {X:Cx}
end
end L2
namespace L2
open PySem PySem.Spec PyProof.Rows
abbrev CellAt (h:Heap) (c:Addr) (v:Option Value):Prop:=h.IsCell c v
def relS (scope sc:Scope):Scope :=
 { scope with names:=scope.names.map fun (n,k)=>if (k==.free && sc.kind==.function && sc.names.lookup n==some .cell) then (n,.cell) else (n,k) }
def cloFrom (cells:List (Str×Addr)):List (Str×NameKind)→List (Str×Addr)→List (Str×Addr)
 | [],acc=>acc
 | (n,k)::r,acc=>if k==.free then cloFrom cells r ((n,(cells.lookup n).getD 0)::acc) else cloFrom cells r acc
theorem closure_loop (env:Env) (f:Str×NameKind→List (Str×Addr)→Sem (ForInStep (List (Str×Addr))))
  (hf:∀ n k c,f (n,k) c=if k==.free then (do let a ← cellOf env n; pure (.yield ((n,a)::c))) else pure (.yield c)) :
  ∀ (names:List (Str×NameKind)) (acc:List (Str×Addr)),(∀ y∈names,y.2=.free→∃ c,env.cells.lookup y.1=some c)→forIn names acc f=pure (cloFrom env.cells names acc)
 | [],acc,_=>by rw [List.forIn_nil]; rfl
 | (n,k)::r,acc,h=>by
  rw [List.forIn_cons,hf]
  have ih:=fun acc=>closure_loop env f hf r acc fun y hy=>h y (List.mem_cons_of_mem _ hy)
  unfold cloFrom
  by_cases hk:(k==NameKind.free)=true
  ·rw [if_pos hk,if_pos hk]
   obtain ⟨c,hc⟩:=h (n,k) List.mem_cons_self (by simpa using hk)
   have e:cellOf env n=pure c:=by unfold cellOf; rw [hc]
   rw [e]
   have e2:(env.cells.lookup n).getD 0=c:=by rw [hc]; rfl
   rw [e2]
   exact ih _
  ·rw [if_neg hk,if_neg hk]
   exact ih _
theorem closure_ok {scope:Scope} {env:Env} (h:∀ y∈scope.names,y.2=.free→∃ c,env.cells.lookup y.1=some c):closureFor scope env=pure (cloFrom env.cells scope.names []):=by
 simp only [closureFor]
 rw [closure_loop env _ (fun n k c=>rfl) scope.names [] h]
 rfl
theorem mem_lookup {α:Type}:∀ {l:List (Str×α)} {n:Str} {c:α},(n,c)∈l→∃ c',l.lookup n=some c'
 | (k,v)::r,n,c,h=>by
  rw [List.lookup_cons]
  cases hb:n==k with
  | true=>exact ⟨_,rfl⟩
  | false =>
   rcases List.mem_cons.mp h with e | h
   ·cases e; simp at hb
   ·exact mem_lookup h
theorem cloFrom_mem {cells:List (Str×Addr)}:∀ {names:List (Str×NameKind)} {acc:List (Str×Addr)} {n:Str} {c:Addr},(n,c)∈cloFrom cells names acc→(n,c)∈acc∨((n,.free)∈names∧c=(cells.lookup n).getD 0)
 | [],_,_,_,h=>.inl h
 | (m,k)::r,acc,n,c,h=>by
  unfold cloFrom at h
  split at h
  ·rename_i hk
   have hk:k=.free:=by simpa using hk
   rcases cloFrom_mem h with h | ⟨h1,h2⟩
   ·rcases List.mem_cons.mp h with e | h
    ·cases e; exact .inr ⟨hk ▸ List.mem_cons_self,rfl⟩
    ·exact .inl h
   ·exact .inr ⟨List.mem_cons_of_mem _ h1,h2⟩
  ·rcases cloFrom_mem h with h | ⟨h1,h2⟩
   ·exact .inl h
   ·exact .inr ⟨List.mem_cons_of_mem _ h1,h2⟩
theorem cloFrom_acc {cells:List (Str×Addr)}:∀ {names:List (Str×NameKind)} {acc:List (Str×Addr)} {p:Str×Addr},p∈acc→p∈cloFrom cells names acc
 | [],_,_,h=>h
 | (m,k)::r,acc,p,h=>by
  unfold cloFrom
  split
  ·exact cloFrom_acc (List.mem_cons_of_mem _ h)
  ·exact cloFrom_acc h
theorem cloFrom_has {cells:List (Str×Addr)}:∀ {names:List (Str×NameKind)} {acc:List (Str×Addr)} {n:Str},(n,.free)∈names→(n,(cells.lookup n).getD 0)∈cloFrom cells names acc
 | (m,k)::r,acc,n,h=>by
  unfold cloFrom
  rcases List.mem_cons.mp h with e | h
  ·cases e
   exact cloFrom_acc List.mem_cons_self
  ·split
   ·exact cloFrom_has h
   ·exact cloFrom_has h
theorem cells_mem:∀ {names:List (Str×NameKind)} {h:Heap} {acc:List (Str×Addr)} {x:Str} {c:Addr},(x,c)∈cellsFrom h.objs.size names acc →
  (x,c)∈acc∨((x,.cell)∈names∧h.objs.size≤c∧CellAt (pushCells h names) c none)
 | [],_,_,_,_,h=>.inl h
 | (n,k)::r,h,acc,x,c,hm=>by
  unfold cellsFrom at hm
  unfold pushCells
  split at hm
  ·rename_i hk
   rw [if_pos hk]
   have hk:k=.cell:=by simpa using hk
   rw [←Heap.size_push h { cls:=.type "cell",data:=.cell none }] at hm
   rcases cells_mem hm with hm | ⟨h1,h2,h3⟩
   ·rcases List.mem_cons.mp hm with e | hm
    ·cases e
     exact .inr ⟨hk ▸ List.mem_cons_self,Nat.le_refl _,_,pushCells_keeps r _ _ _ (Heap.get?_push_size _ rfl),rfl⟩
    ·exact .inl hm
   ·rw [Heap.size_push] at h2
    exact .inr ⟨List.mem_cons_of_mem _ h1,Nat.le_of_succ_le h2,h3⟩
  ·rename_i hk
   rw [if_neg hk]
   rcases cells_mem hm with hm | ⟨h1,h2,h3⟩
   ·exact .inl hm
   ·exact .inr ⟨List.mem_cons_of_mem _ h1,h2,h3⟩
theorem cells_acc:∀ {names:List (Str×NameKind)} {n:Nat} {acc:List (Str×Addr)} {p:Str×Addr},p∈acc→p∈cellsFrom n names acc
 | [],_,_,_,h=>h
 | (m,k)::r,n,acc,p,h=>by
  unfold cellsFrom
  split
  ·exact cells_acc (List.mem_cons_of_mem _ h)
  ·exact cells_acc h
theorem cells_has:∀ {names:List (Str×NameKind)} {n:Nat} {acc:List (Str×Addr)} {x:Str},(x,.cell)∈names→∃ c,(x,c)∈cellsFrom n names acc
 | (m,k)::r,n,acc,x,h=>by
  unfold cellsFrom
  rcases List.mem_cons.mp h with e | h
  ·cases e
   exact ⟨n,cells_acc List.mem_cons_self⟩
  ·split
   ·exact cells_has h
   ·exact cells_has h
theorem cells_inj:∀ {names:List (Str×NameKind)} {h:Heap} {acc:List (Str×Addr)} {x y:Str} {c:Addr},(∀ p∈acc,p.2 < h.objs.size)→(∀ x y c,(x,c)∈acc→(y,c)∈acc→x=y) →
  (x,c)∈cellsFrom h.objs.size names acc→(y,c)∈cellsFrom h.objs.size names acc→x=y
 | [],_,_,_,_,_,_,hi,h1,h2=>hi _ _ _ h1 h2
 | (n,k)::r,h,acc,x,y,c,hl,hi,h1,h2=>by
  unfold cellsFrom at h1 h2
  split at h1
  ·rename_i hk
   rw [if_pos hk] at h2
   rw [←Heap.size_push h { cls:=.type "cell",data:=.cell none }] at h1 h2
   refine cells_inj (h:=h.push _) (fun p hp=>?_) (fun x y c a b=>?_) h1 h2
   ·rw [Heap.size_push]
    rcases List.mem_cons.mp hp with rfl | hp
    ·exact Nat.lt_succ_self _
    ·exact Nat.lt_succ_of_lt (hl p hp)
   ·rcases List.mem_cons.mp a with e | a <;> rcases List.mem_cons.mp b with e' | b
    ·cases e; cases e'; rfl
    ·cases e; exact absurd (hl _ b) (Nat.lt_irrefl _)
    ·cases e'; exact absurd (hl _ a) (Nat.lt_irrefl _)
    ·exact hi _ _ _ a b
  ·rename_i hk
   rw [if_neg hk] at h2
   exact cells_inj hl hi h1 h2
theorem newEnv_comp {M:Model} {A:Around} {E:Value→Shared→Prop} {s:Shared} {scope:Scope} {globals:Addr} {closure:List (Str×Addr)} {qual:Str} {func:Option Addr} {code:Value} {around:Env} {builtins:Addr} {Q:Env→Shared→Prop}
  (h:Q (newEnv scope s.heap.objs.size globals (cellsFrom (s.heap.objs.size + 1) scope.names closure) qual func code (some around) builtins)
   { s with heap:=pushCells (s.heap.push { cls:=.type "dict",data:=.dict #[] }) scope.names }) :
  wpAny M A (newFunctionEnv scope globals closure [] qual func code (some around) builtins) Q E s:=by
 simp only [newFunctionEnv,Option.isSome_some,if_true]
 refine wpAny_bind (wpAny_alloc ?_)
 refine wpAny_bind (wpAny_layCells _ (fun n k c=>rfl) scope.names closure _ _ ?_)
 rw [show ({ s with heap:=s.heap.push { cls:=.type "dict",data:=.dict #[] } }:Shared).heap.objs.size=s.heap.objs.size + 1 from Heap.size_push ..]
 rw [List.forIn_nil]
 exact wpAny_bind (wpAny_pure (wpAny_pure h))
theorem lookup_relS {sc:Scope}:∀ {names:List (Str×NameKind)} {x:Str} {k:NameKind},
  (names.map fun (n,k)=>if (k==NameKind.free && sc.kind==.function && sc.names.lookup n==some .cell) then (n,NameKind.cell) else (n,k)).lookup x=some k →
  ∃ k',names.lookup x=some k'∧(k=k'∨(k'=.free∧k=.cell))
 | [],_,_,h=>by simp at h
 | (n,k₀)::r,x,k,h=>by
  have ih:=@lookup_relS sc r x k
  have h':List.lookup x ((if (k₀==NameKind.free && sc.kind==.function && sc.names.lookup n==some .cell)=true then (n,NameKind.cell) else (n,k₀))::(r.map _))=some k:=h
  cases hx:x==n with
  | true =>
   simp only [List.lookup_cons,hx]
   by_cases hc:(k₀==NameKind.free && sc.kind==.function && sc.names.lookup n==some .cell)=true
   ·rw [if_pos hc] at h'
    simp only [List.lookup_cons,hx] at h'
    cases h'
    simp only [Bool.and_eq_true,beq_iff_eq] at hc
    exact ⟨k₀,rfl,.inr ⟨hc.1.1,rfl⟩⟩
   ·rw [if_neg hc] at h'
    simp only [List.lookup_cons,hx] at h'
    cases h'
    exact ⟨_,rfl,.inl rfl⟩
  | false =>
   simp only [List.lookup_cons,hx]
   by_cases hc:(k₀==NameKind.free && sc.kind==.function && sc.names.lookup n==some .cell)=true
   ·rw [if_pos hc] at h'
    simp only [List.lookup_cons,hx] at h'
    exact ih h'
   ·rw [if_neg hc] at h'
    simp only [List.lookup_cons,hx] at h'
    exact ih h'
structure BlkOk (N:List Str) (sc scope:Scope) (own:List (Str×Nat)):Prop where
 kind:scope.kind=.function
 uniq:∀ y∈scope.names,scope.names.lookup y.1=some y.2
 ix:∀ p∈own,N[p.2]?=some p.1
 free:∀ y∈scope.names,y.2=.free→sc.names.lookup y.1=some .cell∨sc.names.lookup y.1=some .free
 own:∀ y∈scope.names,y.2=.local∨y.2=.cell→y.1∈own.map (·.1)∨y.1 ∉ N
def wipe (σ:St):List Nat→St
 | []=>σ
 | v::vs=>(wipe σ vs).set v none
theorem wipe_length (σ:St):∀ vs:List Nat,(wipe σ vs).length=σ.length
 | []=>rfl
 | v::vs=>by unfold wipe; rw [List.length_set,wipe_length σ vs]
theorem wipe_some {σ:St} {i:Nat} {x:V}:∀ {vs:List Nat},(wipe σ vs)[i]?=some (some x)→σ[i]?=some (some x)∧i ∉ vs
 | [],h=>⟨h,by simp⟩
 | v::vs,h=>by
  unfold wipe at h
  by_cases hi:v=i
  ·subst hi
   by_cases hv:v < (wipe σ vs).length
   ·rw [List.getElem?_set_self hv] at h; cases h
   ·rw [List.getElem?_eq_none (by simpa using hv)] at h; cases h
  ·rw [List.getElem?_set_ne hi] at h
   obtain ⟨h1,h2⟩:=wipe_some h
   exact ⟨h1,by simp only [List.mem_cons,not_or]; exact ⟨fun e=>hi e.symm,h2⟩⟩
abbrev Cx.blk (X:Cx) (s:Shared) (H:Hp) (scope:Scope) (cenv:Env) (fp:List Addr):Cx:={ X with s_0:=s,H_0:=H,env:=cenv,outer:=X.stack,ex:=fp,fn:=fun x=>scope.names.lookup x==some .cell,pn:=[],xe:=fun _ _=>False }
section
variable {X:Cx} {pins:List (Addr×Obj)} {σ:St} {H:Hp} {s:Shared}
theorem block_start {scope:Scope} {own:List (Str×Nat)} {fp:List Addr} (I:Inv X pins σ H s) (ok:BlkOk X.N X.env.scope scope own) (hN:X.N.Nodup) (hfp:∀ b∈fp,FpOk X pins H b∧b < s.heap.objs.size) :
  Inv (X.blk s H scope (compEnvC scope (cellsFrom (s.heap.objs.size + 1) scope.names (cloFrom X.env.cells scope.names [])) s.heap.objs.size X.env) fp) [] (wipe σ (own.map (·.2))) H { s with heap:=pushCells (s.heap.push { cls:=.type "dict",data:=.dict #[] }) scope.names }:=by
 have hfree:∀ y∈scope.names,y.2=.free→∃ c,X.env.cells.lookup y.1=some c:=fun y hy e=>by
  rcases ok.free y hy e with k | k
  ·exact I.ok.has _ (.inl k)
  ·exact I.ok.has _ (.inr k)
 generalize hcenv:compEnvC scope (cellsFrom (s.heap.objs.size + 1) scope.names (cloFrom X.env.cells scope.names [])) s.heap.objs.size X.env=cenv
 have kp:∀ b o,s.heap.get? b=some o→(pushCells (s.heap.push { cls:=.type "dict",data:=.dict #[] }) scope.names).get? b=some o:=fun b o e=>pushCells_keeps _ _ _ _ (Heap.get?_push_of_some _ e)
 have hL:cenv.locals=s.heap.objs.size:=by rw [←hcenv]; rfl
 have hcl:cenv.cells=cellsFrom (s.heap.objs.size + 1) scope.names (cloFrom X.env.cells scope.names []):=by rw [←hcenv]; rfl
 have hsc:cenv.scope=relS scope X.env.scope:=by rw [←hcenv]; rfl
 rw [←Heap.size_push s.heap { cls:=.type "dict",data:=.dict #[] }] at hcl
 have cm:∀ {y c},(y,c)∈cloFrom X.env.cells scope.names []→X.env.cells.lookup y=some c∧c < s.heap.objs.size:=fun {y c} hm=>by
  rcases cloFrom_mem hm with hm | ⟨h1,rfl⟩
  ·cases hm
  ·obtain ⟨c,hc⟩:=hfree _ h1 rfl
   rw [hc]
   obtain ⟨w,z⟩:=I.cell _ _ hc
   exact ⟨rfl,z.lt⟩
 have mem:∀ {y c},cenv.cells.lookup y=some c→(X.env.cells.lookup y=some c∧c < s.heap.objs.size)∨(s.heap.objs.size + 1≤c∧CellAt (pushCells (s.heap.push { cls:=.type "dict",data:=.dict #[] }) scope.names) c none):=fun {y c} e=>by
  rw [hcl] at e
  rcases cells_mem (PySem.mem_of_lookup e) with hm | ⟨_,h2,h3⟩
  ·exact .inl (cm hm)
  ·rw [Heap.size_push] at h2; exact .inr ⟨h2,h3⟩
 have look:∀ {y},scope.names.lookup y=some .free→∃ c,cenv.cells.lookup y=some c∧X.env.cells.lookup y=some c:=fun {y} hl=>by
  have hy:(y,NameKind.free)∈scope.names:=PySem.mem_of_lookup hl
  obtain ⟨c',e'⟩:=mem_lookup (cells_acc (names:=scope.names) (n:=(s.heap.push { cls:=.type "dict",data:=.dict #[] }).objs.size) (cloFrom_has (cells:=X.env.cells) (acc:=[]) hy))
  rw [←hcl] at e'
  refine ⟨c',e',?_⟩
  rw [hcl] at e'
  rcases cells_mem (PySem.mem_of_lookup e') with hm | ⟨h1,_,_⟩
  ·exact (cm hm).1
  ·have:=ok.uniq _ h1
   rw [hl] at this; cases this
 have okB:(X.blk s H scope cenv fp).Ok:=by
  refine ⟨I.ok.mod,by show cenv.scope.kind=_; rw [hsc]; exact ok.kind,by show cenv.globals=_; rw [←hcenv]; exact I.ok.glob,by show cenv.builtins=_; rw [←hcenv]; exact I.ok.blt,by show s.heap.objs.size≤cenv.locals; rw [hL]; exact Nat.le_refl _,
   fun y z c e1 e2=>?_,fun y hy=>?_,fun y c z e=>?_,I.ok.hd,I.ok.frames,.inl rfl,fun b hb=>⟨?_,fun y c e z=>?_⟩,I.bs,Nat.le_trans I.ok.bsz I.sz,fun b o e hb=>?_,fun b hb z=>?_,I.stack,I.stkFree⟩
  ·have e1:cenv.cells.lookup y=some c:=e1
   have e2:cenv.cells.lookup z=some c:=e2
   rw [hcl] at e1 e2
   refine cells_inj (fun p hp=>?_) (fun y z c a b=>I.ok.inj y z c (cm a).1 (cm b).1) (PySem.mem_of_lookup e1) (PySem.mem_of_lookup e2)
   rw [Heap.size_push]
   exact Nat.lt_succ_of_lt (cm (y:=p.1) (c:=p.2) hp).2
  ·show ∃ c,cenv.cells.lookup y=some c
   have key:∀ k,cenv.kindOf y=some k→(k=.cell∨k=.free)→∃ c,cenv.cells.lookup y=some c:=fun k hk hk'=>by
    unfold Env.kindOf at hk
    rw [hsc] at hk
    obtain ⟨k',e,r⟩:=lookup_relS hk
    have:k'=.cell∨k'=.free:=by
     rcases r with rfl | ⟨rfl,_⟩
     ·exact hk'
     ·exact .inr rfl
    rcases this with rfl | rfl
    ·obtain ⟨c,hm⟩:=cells_has (n:=(s.heap.push { cls:=.type "dict",data:=.dict #[] }).objs.size) (acc:=cloFrom X.env.cells scope.names []) (PySem.mem_of_lookup e)
     obtain ⟨c',e'⟩:=mem_lookup hm
     exact ⟨c',by rw [hcl]; exact e'⟩
    ·obtain ⟨c,h1,_⟩:=look e
     exact ⟨c,h1⟩
   rcases hy with hy | hy
   ·exact key _ hy (.inl rfl)
   ·exact key _ hy (.inr rfl)
  ·have z:(scope.names.lookup y==some NameKind.cell)=true:=z
   have z:scope.names.lookup y=some .cell:=by simpa using z
   have e:cenv.cells.lookup y=some c:=e
   rw [hcl] at e
   rcases cells_mem (PySem.mem_of_lookup e) with hm | ⟨_,h2,_⟩
   ·rcases cloFrom_mem hm with hm | ⟨h1,_⟩
    ·cases hm
    ·have q:=ok.uniq _ h1
     rw [z] at q; cases q
   ·rw [Heap.size_push] at h2
    exact Nat.le_of_succ_le h2
  ·show b≠cenv.locals
   rw [hL]; exact Nat.ne_of_lt (hfp b hb).2
  ·have e:cenv.cells.lookup y=some c:=e
   rcases mem e with ⟨h1,_⟩ | ⟨h1,_⟩
   ·exact (hfp b hb).1.2.2.2.2.1 y c h1 z
   ·have h2:s.heap.objs.size + 1≤b:=by rw [←z]; exact h1
    exact absurd (Nat.lt_of_lt_of_le (hfp b hb).2 (Nat.le_of_succ_le h2)) (Nat.lt_irrefl _)
  ·rcases (hfp b hb).1.2.2.2.1 with z | z
   ·exact I.ok.noex b o e z
   ·exact absurd (Nat.lt_of_lt_of_le (Heap.lt_size e) (Nat.le_trans I.ok.bsz z)) (Nat.lt_irrefl _)
  ·rcases List.mem_cons.mp (I.stkSub b z) with z | z
   ·exact (hfp b hb).1.2.1 z
   ·exact (hfp b hb).1.2.2.1 z
 refine ⟨okB,rfl,I.bare,Un.kept kp,⟨fun _=>none,?_,fun i y av e1 e2 e3=>?_⟩,fun y c e=>?_,?_,fun y c e=>?_,fun p hp=>?_,I.hok.kept kp,by rw [wipe_length]; exact I.len⟩
 ·show Heap.Ns _ cenv.locals _
  rw [hL]
  exact Heap.Ns.keeps (Heap.Ns.new ..) fun b o e=>pushCells_keeps _ _ _ _ e
 ·obtain ⟨e2,hne⟩:=wipe_some e2
  have hfr:scope.names.lookup y=some .free∧(cenv.kindOf y=some .cell∨cenv.kindOf y=some .free):=by
   have key:∀ k,cenv.scope.names.lookup y=some k→k=.local∨k=.cell∨k=.free→scope.names.lookup y=some .free∧(cenv.kindOf y=some .cell∨cenv.kindOf y=some .free):=fun k hk hk'=>by
    have hk0:=hk
    rw [hsc] at hk
    obtain ⟨k',e,r⟩:=lookup_relS hk
    have no:¬ (k'=.local∨k'=.cell):=fun hh=>by
     rcases ok.own _ (PySem.mem_of_lookup e) hh with e' | e'
     ·obtain ⟨p,hp,hpy⟩:=List.mem_map.mp e'
      have e3:=ok.ix p hp
      have:p.1=y:=hpy
      rw [this] at e3
      exact hne (List.mem_map.mpr ⟨p,hp,nodup_ix hN e3 e1⟩)
     ·exact e' (List.mem_of_getElem? e1)
    rcases r with rfl | ⟨rfl,rfl⟩
    ·rcases hk' with rfl | rfl | rfl
     ·exact absurd (.inl rfl) no
     ·exact absurd (.inr rfl) no
     ·exact ⟨e,.inr hk0⟩
    ·exact ⟨e,.inl hk0⟩
   have e3:Vis cenv.scope y:=e3
   rcases e3 with e3 | e3 | e3
   ·exact key _ e3 (.inl rfl)
   ·exact key _ e3 (.inr (.inl rfl))
   ·exact key _ e3 (.inr (.inr rfl))
  obtain ⟨m,hn,hl⟩:=I.loc
  have hvis:Vis X.env.scope y:=(ok.free _ (PySem.mem_of_lookup hfr.1) rfl).elim (fun k=>.inr (.inl k)) (fun k=>.inr (.inr k))
  obtain ⟨w,r,q⟩:=hl i y av e1 e2 hvis
  refine ⟨w,r,.inr ⟨hfr.2,?_⟩⟩
  obtain ⟨c,h1,h2⟩:=look hfr.1
  rcases q with ⟨k,_⟩ | ⟨_,c',e',z⟩
  ·have k:X.env.scope.names.lookup y=some .local:=k
   rcases ok.free _ (PySem.mem_of_lookup hfr.1) rfl with k' | k' <;> rw [show X.env.scope.names.lookup y=_ from k'] at k <;> cases k
  ·rw [h2] at e'; cases e'
   exact ⟨c,h1,z.keeps kp⟩
 ·have e:cenv.cells.lookup y=some c:=e
  rcases mem e with ⟨h1,_⟩ | ⟨_,z⟩
  ·obtain ⟨w,z⟩:=I.cell y c h1
   exact ⟨w,z.keeps kp⟩
  ·exact ⟨_,z⟩
 ·show H cenv.locals=none
  rw [hL]; exact I.hok.fresh (Nat.le_refl _)
 ·have e:cenv.cells.lookup y=some c:=e
  rcases mem e with ⟨h1,_⟩ | ⟨h1,_⟩
  ·exact I.freeC y c h1
  ·exact I.hok.fresh (Nat.le_of_succ_le h1)
 ·exact absurd (show p∈([]:List (Addr×Obj))++[] from hp) (by simp)
theorem app_ok {E:Value→Shared→Prop} {D:Addr} {xs:List V} {y:V} {v:Value} {Q:Value→Shared→Prop} (I:Inv X pins σ H s) (hD:H D=some (.lst xs)) (hz:xs.length < sizeLine) (r:RelV y v)
  (h:∀ s',Inv X pins σ (upd H D (.lst (xs++[y]))) s'→Q .none s'):wpAny (model X.prog X.w) X.A (call (.builtin "list.append") [.ref D,v]) Q E s:=by
 obtain ⟨hz',its,n,ri,e⟩:=I.hok D _ hD
 have hl:=ri.length
 refine append_at (hsz:=by rw [List.size_toArray]; omega) e fun h' sb ho'=>?_
 refine h { s with heap:=h' } (I.write (t':=s.toks) (by rw [hD]; trivial) (.inl rfl) (fun b u hb q=>(sb.2 b hb).trans q) ⟨_,ho'⟩ ⟨by rw [List.length_append]; exact hz,its++[v],n + 1,ri.append (.cons r .nil),?_⟩)
 rw [ho']
 simp
def PTs (X:Cx) (ifs:List Expr) (t:TT):Prop :=
 ∀ (pins:List (Addr×Obj)) (s:Shared) (σ:St) (H:Hp) (Q:Bool→Hp→Prop),Inv X pins σ H s→t σ H Q →
  wpAny (model X.prog X.w) X.A (forIn ifs true fun c r=>if r=true then do let ok ← isTrue c X.env (eval c X.env); pure (ForInStep.yield ok) else pure (ForInStep.yield r)) (TP X pins σ Q) X.xe s
def tYes:TT:=fun _ H Q=>Q true H
theorem pts_nil:PTs X [] tYes:=fun _ _ _ H _ I h=>wpAny_tests_nil ⟨H,I,h⟩
theorem pts_one {c:Expr} {t:TT} (h:PT X c t):PTs X [c] t:=fun pins s σ H Q I hw=>wpAny_tests_one (h pins s σ H Q I hw)
end
theorem thnF {α:Type} {t:Sem α} {Q Q':α→Shared→Prop} {M:Model} {A:Around} {E:Value→Shared→Prop} {s:Shared} (h:wpAny M A t Q (fun _ _=>False) s) (hQ:∀ a s,Q a s→Q' a s):wpAny M A t Q' E s:=wpAny_mono h hQ fun _ _ z=>False.elim z
theorem compLoop_any {prog:Program} {w:World} {A:Around} {R:Result→Shared→Prop} {s:Shared} {elt target iter:Expr} {ifs:List Expr} {scope:Scope} {pos:Pos} {it acc:Value} {env:Env} (I:Nat→Shared→Prop)
  (turn:∀ n s,I n s→wpAny (model prog w) A (pyNext it) (fun r s₁=>match r with
   | none=>R (.ok .next) s₁
   | some v=>wpAny (model prog w) A (letOwnedTupleGo target it v) (fun _ s₁'=>wpAny (model prog w) A (assign target env v) (fun _ s₂ =>
     wpAny (model prog w) A (forIn ifs true fun c r=>if r=true then do let ok ← isTrue c env (eval c env); pure (ForInStep.yield ok) else pure (ForInStep.yield r)) (fun ok s₃ =>
      if ok=true then wpAny (model prog w) A (eval elt env) (fun x s₄ =>
       wpAny (model prog w) A (call (.builtin "list.append") [acc,x]) (fun _ s₅=>∃ m,m < n∧I m s₅) (notedBy (model prog w) A env fun e s'=>R (.error e) s') s₄) (notedBy (model prog w) A env fun e s'=>R (.error e) s') s₃
      else ∃ m,m < n∧I m s₃) (notedBy (model prog w) A env fun e s'=>R (.error e) s') s₂) (notedBy (model prog w) A env fun e s'=>R (.error e) s') s₁') (notedBy (model prog w) A env fun e s'=>R (.error e) s') s₁) (notedBy (model prog w) A env fun e s'=>R (.error e) s') s)
  (n:Nat) (h:I n s) :
  codeAny (model prog w) A (.compLoop (.ListComp elt [⟨target,iter,ifs,0⟩] scope pos) 0 it acc env) R s:=by
 refine codeAny_loop rfl I (fun n s hI=>?_) n h
 show wpAny _ A ((compTurn (.ListComp elt [⟨target,iter,ifs,0⟩] scope pos) 0 it acc env).onRaise (fun x=>do noteFrame x env; theTreesLotGoes x)) _ _ s
 refine wpAny_noted ?_
 rw [compTurn_list]
 refine wpAny_bind (wpAny_standAt (wpAny_bind (wpAny_mono (turn n s hI) (fun r s₁ h₁=>?_) fun _ _ h'=>h')))
 cases r with
 | none=>exact wpAny_pure h₁
 | some v =>
  refine wpAny_bind (wpAny_mono h₁ (fun _ s₁' h₁'=>?_) fun _ _ h'=>h')
  refine wpAny_bind (wpAny_mono h₁' (fun _ s₂ h₂=>wpAny_bind (wpAny_mono h₂ (fun ok s₃ h₃=>?_) fun _ _ h'=>h')) fun _ _ h'=>h')
  cases ok with
  | false=>exact wpAny_pure ⟨rfl,h₃⟩
  | true =>
   exact wpAny_bind (wpAny_bind (wpAny_mono h₃ (fun x s₄ h₄=>wpAny_bind (wpAny_mono h₄ (fun _ s₅ h₅=>wpAny_pure (wpAny_pure ⟨rfl,h₅⟩)) fun _ _ h'=>h')) fun _ _ h'=>h'))
section
variable {X:Cx}
def tLc (wi:TI) (g:TG) (tt:TT) (te:TE) (vs:List Nat):TE:=fun σ H Q=>wi σ H fun J H1=>∀ D,H1 D=none→∃ W:Nat→Nat→Hp→Prop,(∃ m,W 0 m (upd H1 D (.lst [])))∧∀ i m H,W i m H →
 (J.stop i H∧Q (.ref D) H)∨(J.go i H∧∃ Nx:Hp→Prop,(∀ H',Nx H'→∃ m',m' < m∧W (i + 1) m' H')∧∀ x H',J.yld i H x H'→g x (wipe σ vs) H' fun σ2 H2=>wipe σ2 vs=wipe σ vs∧tt σ2 H2 fun b H3 =>
  if b=true then te σ2 H3 fun y H4=>∃ acc,H4 D=some (.lst acc)∧acc.length < sizeLine∧Nx (upd H4 D (.lst (acc++[y]))) else Nx H3)
theorem lc_core {pins:List (Addr×Obj)} {s:Shared} {σ:St} {H:Hp} {Q:VK} {elt tg iter:Expr} {ifs:List Expr} {scope:Scope} {own:List (Str×Nat)} {pos pos':Pos} {wi:TI} {g:TG} {tt:TT} {te:TE} {use:Option (Value→Sem Unit)} {Qf:Value→Shared→Prop}
  (hc:X.calm=true) (hN:X.N.Nodup) (I:Inv X pins σ H s) (hi:PI X tg iter wi) (ok:BlkOk X.N X.env.scope scope own)
  (hg:∀ (s:Shared) (H:Hp) (C:Addr) (cl:List (Str×Addr)) (fp:List Addr),PG (X.blk s H scope (compEnvC scope cl C X.env) fp) tg g) (ht:∀ (s:Shared) (H:Hp) (C:Addr) (cl:List (Str×Addr)) (fp:List Addr),PTs (X.blk s H scope (compEnvC scope cl C X.env) fp) ifs tt)
  (he:∀ (s:Shared) (H:Hp) (C:Addr) (cl:List (Str×Addr)) (fp:List Addr),PE (X.blk s H scope (compEnvC scope cl C X.env) fp) elt te) (hs:∀ x,foldedSetIterable iter X.env x=pure x)
  (h:tLc wi g tt te (own.map (·.2)) σ H Q)
  (hRR:∀ D C s' m H',Inv X pins σ H' s'→Q (.ref D) H'→s'.heap.Ns C m→FpOk X pins H' C→compPost (model X.prog X.w) X.A X.xe use Qf (.ref D) C (.ok .next) s') :
  wpAny (model X.prog X.w) X.A (comprehension (.ListComp elt [⟨tg,iter,ifs,0⟩] scope pos) scope X.env pos' (newList []) false (eval iter X.env) use) Qf X.xe s:=by
 have hfree:∀ y∈scope.names,y.2=.free→∃ c,X.env.cells.lookup y.1=some c:=fun y hy e=>by
  rcases ok.free y hy e with k | k
  ·exact I.ok.has _ (.inl k)
  ·exact I.ok.has _ (.inr k)
 refine wpAny_comprehension_free (use:=use) rfl hs (closure_ok hfree) ok.kind (fun y hy e=>by rw [ok.uniq y hy,e])
  (thn (hi pins s σ H _ I h) fun xv s1 hx=>thn hx fun itv s2 h2=>?_)
 obtain ⟨it,fp,tn,J,H2,e,I2,T,st2,f2,q⟩:=h2
 subst e
 refine wpAny_newObj_type (newEnv_comp ?_) (by show 0≤sizeLine; decide)
 generalize hD:s2.heap.objs.size=D
 have hDn:H2 D=none:=I2.hok.fresh (Nat.le_of_eq hD)
 obtain ⟨W,⟨m0,w0⟩,turn⟩:=q D hDn
 generalize hs3:({ s2 with heap:=s2.heap.push { cls:=.type "list",data:=.seq ([]:List Value).toArray } }:Shared)=s3
 have I3:Inv X pins σ (upd H2 D (.lst [])) s3:=by
  rw [←hs3]
  refine I2.laid (t':=s2.toks) (fun b o e=>Heap.get?_push_of_some _ e) (Nat.le_of_eq hD) ⟨Nat.zero_le _,[],0,.nil,?_⟩
  rw [←hD]
  exact Heap.get?_push_size _ rfl
 have h3:s3.heap=s2.heap.push { cls:=.type "list",data:=.seq ([]:List Value).toArray }:=by rw [←hs3]
 have sz:∀ b∈fp,b < s2.heap.objs.size:=fun b hb=>by
  obtain ⟨o,e,_⟩:=T.obj _ _ st2 b hb
  exact Heap.lt_size e
 have f3:∀ b∈fp,FpOk X pins (upd H2 D (.lst [])) b∧b < s3.heap.objs.size:=fun b hb=>by
  have hlt:=sz b hb
  refine ⟨⟨?_,(f2 b hb).2⟩,by rw [h3,Heap.size_push]; exact Nat.lt_succ_of_lt hlt⟩
  rw [upd_ne (by rw [←hD]; exact Nat.ne_of_lt hlt)]
  exact (f2 b hb).1
 have st3:tn 0 s3.heap:=T.keep _ _ _ st2 fun b _ o e=>by rw [h3]; exact Heap.get?_push_of_some _ e
 have I4:=block_start I3 ok hN f3
 have pg:=hg s3 (upd H2 D (.lst [])) s3.heap.objs.size (cellsFrom (s3.heap.objs.size + 1) scope.names (cloFrom X.env.cells scope.names [])) fp
 have pt:=ht s3 (upd H2 D (.lst [])) s3.heap.objs.size (cellsFrom (s3.heap.objs.size + 1) scope.names (cloFrom X.env.cells scope.names [])) fp
 have pe:=he s3 (upd H2 D (.lst [])) s3.heap.objs.size (cellsFrom (s3.heap.objs.size + 1) scope.names (cloFrom X.env.cells scope.names [])) fp
 show codeAny _ _ (.compStart (.ListComp elt [⟨tg,iter,ifs,0⟩] scope pos) 0 (.ref it) (.ref D) (compEnvC scope (cellsFrom (s3.heap.objs.size + 1) scope.names (cloFrom X.env.cells scope.names [])) s3.heap.objs.size X.env)) (compPost (model X.prog X.w) X.A X.xe use Qf (.ref D) s3.heap.objs.size) { s3 with heap:=pushCells (s3.heap.push { cls:=.type "dict",data:=.dict #[] }) scope.names }
 have nfp:∀ b∈fp,(upd H2 D (.lst [])) b=none:=fun b hb=>(f3 b hb).1.1
 generalize hce:compEnvC scope (cellsFrom (s3.heap.objs.size + 1) scope.names (cloFrom X.env.cells scope.names [])) s3.heap.objs.size X.env=ce at I4 pg pt pe ⊢
 have cL:ce.locals=s3.heap.objs.size:=by subst hce; rfl
 generalize hH3:upd H2 D (.lst [])=H3 at I3 I4 pg pt pe w0 nfp f3
 generalize hs4:({ s3 with heap:=pushCells (s3.heap.push { cls:=.type "dict",data:=.dict #[] }) scope.names }:Shared)=s4 at I4 ⊢
 have st4:tn 0 s4.heap:=T.keep _ _ _ st3 fun b _ o e=>by rw [←hs4]; exact pushCells_keeps _ _ _ _ (Heap.get?_push_of_some _ e)
 have stat:∀ {σ':St} {H':Hp} {s':Shared},Inv (X.blk s3 H3 scope ce fp) [] σ' H' s'→(∀ b∈fp,H' b=none)→∀ b∈fp,FpOk (X.blk s3 H3 scope ce fp) [] H' b:=fun {σ' H' s'} I' hn b hb =>
  ⟨hn b hb,(I'.ok.exf b hb).1,I'.ok.exfs b hb,.inl hb,fun x c e=>(I'.ok.exf b hb).2 x c e,fun p hp=>absurd (show p∈([]:List (Addr×Obj))++[] from hp) (by simp)⟩
 have loop:codeAny (model X.prog X.w) X.A (.compLoop (.ListComp elt [⟨tg,iter,ifs,0⟩] scope pos) 0 (.ref it) (.ref D) ce) (compPost (model X.prog X.w) X.A X.xe use Qf (.ref D) s3.heap.objs.size) s4:=by
  refine compLoop_any (fun n s'=>∃ i H',Inv (X.blk s3 H3 scope ce fp) [] (wipe σ (own.map (·.2))) H' s'∧tn i s'.heap∧(∀ b∈fp,H' b=none)∧W i n H') ?_ m0 ⟨0,H3,I4,st4,nfp,w0⟩
  rintro n s5 ⟨i,H5,I5,st5,n5,w5⟩
  rcases turn i n H5 w5 with ⟨stop,qq⟩ | ⟨go,Nx,hNx,step⟩
  ·have td:=T.done (X.blk s3 H3 scope ce fp) rfl rfl rfl hc i [] s5 _ H5 (fun _ _=>False) I5 (stat I5 n5) st5 stop
   refine thnF td fun r s6 ⟨hr,I6⟩=>?_
   subst hr
   have I7:Inv X pins σ H5 s6:=I3.call' (ch:=fp) I6.os I6.base I6.hok I6.bare fun b hb=>⟨(f3 b hb).1.2.2.2.1,(f3 b hb).1.2.1,(f3 b hb).1.2.2.2.2.1,(f3 b hb).1.2.2.2.2.2⟩
   have nC:H5 s3.heap.objs.size=none:=by
    have z:H5 ce.locals=none:=I6.free
    rw [cL] at z
    exact z
   obtain ⟨m,hn,_⟩:=I6.loc
   have hn:s6.heap.Ns ce.locals m:=hn
   rw [cL] at hn
   exact hRR D s3.heap.objs.size s6 m H5 I7 qq hn (I3.fpOk (Nat.le_refl _) nC)
  ·have ti:=T.item (X.blk s3 H3 scope ce fp) rfl rfl rfl hc i [] s5 _ H5 (fun _ _=>False) I5 (stat I5 n5) st5 go
   refine thnF ti fun r s6 ⟨u,hr,h6⟩=>?_
   subst hr
   refine thnF h6 fun _ s7 ⟨x,H7,I7,r7,y7,st7,n7⟩=>?_
   have I7':=I7.pinned (stat I7 n7) (T.obj _ _ st7)
   refine thnF (pg _ s7 _ H7 x u _ I7' r7 (step x H7 y7)) fun _ s8 ⟨σ8,H8,I8,hw8,q8⟩=>?_
   refine thnF (pt _ s8 σ8 H8 _ I8 q8) fun b s9 ⟨H9,I9,q9⟩=>?_
   have fin:∀ {s':Shared} {H':Hp},Inv (X.blk s3 H3 scope ce fp) ([]++pinsAt fp s7.heap) σ8 H' s'→Nx H'→∃ m,m < n∧∃ i H',Inv (X.blk s3 H3 scope ce fp) [] (wipe σ (own.map (·.2))) H' s'∧tn i s'.heap∧(∀ b∈fp,H' b=none)∧W i m H':=fun {s' H'} I' nx=>by
    obtain ⟨m',hm,w'⟩:=hNx H' nx
    have pin':∀ b∈fp,∀ o,s7.heap.get? b=some o→s'.heap.get? b=some o∧H' b=none:=fun b hb o e =>
     let z:=I'.pin (b,o) (List.mem_append_right _ (List.mem_append_right _ (mem_pinsAt hb e)))
     ⟨z.1,z.2.1⟩
    have hl:(wipe σ (own.map (·.2))).length=σ8.length:=by rw [←hw8,wipe_length]
    refine ⟨m',hm,i + 1,H',(I'.unpinned (pins:=[])).weak hl (fun j v e=>?_),T.keep _ _ _ st7 fun b hb o e=>(pin' b hb o e).1,fun b hb=>?_,w'⟩
    ·rw [←hw8] at e
     exact (wipe_some e).1
    ·obtain ⟨o,e,_⟩:=T.obj _ _ st7 b hb
     exact (pin' b hb o e).2
   cases b with
   | false =>
    simp only [Bool.false_eq_true,if_false] at q9 ⊢
    exact fin I9 q9
   | true =>
    simp only [if_true] at q9 ⊢
    refine thnF (pe _ s9 σ8 H9 _ I9 q9) fun z s10 ⟨yv,H10,I10,r10,acc,hD10,hz10,nx⟩=>?_
    exact app_ok (X:=X.blk s3 H3 scope ce fp) I10 hD10 hz10 r10 fun s11 I11=>fin I11 nx
 exact codeAny_compStart_list loop (T.self X.A 0 _ _ _ st4 loop)
theorem pe_lc {elt tg iter:Expr} {ifs:List Expr} {scope:Scope} {own:List (Str×Nat)} {pos:Pos} {wi:TI} {g:TG} {tt:TT} {te:TE} (hc:X.calm=true) (hN:X.N.Nodup) (hi:PI X tg iter wi) (ok:BlkOk X.N X.env.scope scope own)
  (hg:∀ (s:Shared) (H:Hp) (C:Addr) (cl:List (Str×Addr)) (fp:List Addr),PG (X.blk s H scope (compEnvC scope cl C X.env) fp) tg g) (ht:∀ (s:Shared) (H:Hp) (C:Addr) (cl:List (Str×Addr)) (fp:List Addr),PTs (X.blk s H scope (compEnvC scope cl C X.env) fp) ifs tt)
  (he:∀ (s:Shared) (H:Hp) (C:Addr) (cl:List (Str×Addr)) (fp:List Addr),PE (X.blk s H scope (compEnvC scope cl C X.env) fp) elt te) (hs:∀ x,foldedSetIterable iter X.env x=pure x:=by intro _; rfl) :
  PE X (.ListComp elt [⟨tg,iter,ifs,0⟩] scope pos) (tLc wi g tt te (own.map (·.2))):=by
 intro pins s σ H Q I h
 rw [eval_ListComp]
 refine lc_core hc hN I hi ok hg ht he hs h fun D C s' m H' I' q hn f=>⟨m,hn,fun h'' sb=>?_⟩
 obtain ⟨f0,f1,f2,f3,f4,f5⟩:=f
 exact ⟨.ref D,H',I'.turned (t':=s'.toks) (fun b o hb e=>(sb.2 b hb).trans e) f0 f1 f3 f4 f5,rfl,q⟩
theorem ps_setLc {i:Nat} {y:Str} {py:Pos} {elt tg iter:Expr} {ifs:List Expr} {scope:Scope} {own:List (Str×Nat)} {pos spos:Pos} {wi:TI} {g:TG} {tt:TT} {te:TE} (hc:X.calm=true) (hN:X.N.Nodup) (hy:X.N[i]?=some y) (hyl:X.env.scope.names.lookup y=some .local)
  (hsw:swapsWith (.ListComp elt [⟨tg,iter,ifs,0⟩] scope pos) (some (.Name y py)) spos.line X.env=pure true) (hi:PI X tg iter wi) (ok:BlkOk X.N X.env.scope scope own)
  (hg:∀ (s:Shared) (H:Hp) (C:Addr) (cl:List (Str×Addr)) (fp:List Addr),PG (X.blk s H scope (compEnvC scope cl C X.env) fp) tg g) (ht:∀ (s:Shared) (H:Hp) (C:Addr) (cl:List (Str×Addr)) (fp:List Addr),PTs (X.blk s H scope (compEnvC scope cl C X.env) fp) ifs tt)
  (he:∀ (s:Shared) (H:Hp) (C:Addr) (cl:List (Str×Addr)) (fp:List Addr),PE (X.blk s H scope (compEnvC scope cl C X.env) fp) elt te) (hs:∀ x,foldedSetIterable iter X.env x=pure x:=by intro _; rfl) :
  PS X (.Assign [.Name y py] (.ListComp elt [⟨tg,iter,ifs,0⟩] scope pos) spos) (tAsg (tLc wi g tt te (own.map (·.2))) (gName i)):=by
 intro pins s σ H D I h
 rw [exec_Assign_Name_used _ _ _ _ hsw]
 refine wpAny_bind (wpAny_standAt (wpAny_bind ?_))
 show wpAny _ X.A (do let _ ← comprehension (.ListComp elt [⟨tg,iter,ifs,0⟩] scope pos) scope X.env (firstIterPos [⟨tg,iter,ifs,0⟩] pos) (newList []) false (eval iter X.env) (some (assign (.Name y py) X.env))) _ _ s
 have h:tLc wi g tt te (own.map (·.2)) σ H (fun x H1=>gName i x σ H1 D.nx):=h
 refine wpAny_bind (thn (lc_core (Qf:=fun _ s'=>SP X pins D .next s') hc hN I hi ok hg ht he hs h fun L C s' m H' I' q hn f=>?_) fun _ s' hq=>wpAny_pure (wpAny_pure hq))
 show wpAny _ _ (assign (.Name y py) X.env (.ref L)) _ _ _
 refine wpAny_assign_Name (store_ok2 (v:=V.ref L) I' hN hy (.inl hyl) rfl (fun s2 I2 ⟨a,sb,ha⟩=>?_) (.inr hyl))
 obtain ⟨f0,f1,f2,f3,f4,f5⟩:=f
 have haC:C≠a:=by
  rcases ha with z | z
  ·rw [z]; exact f1
  ·exact fun e=>f4 y a z e.symm
 refine ⟨m,hn.sameBut sb haC,fun h3 sb3=>?_⟩
 exact ⟨_,H',I2.turned (t':=s2.toks) (fun b o hb e=>(sb3.2 b hb).trans e) f0 f1 f3 f4 f5,q⟩
theorem sw_true {elt:Expr} {gs:List Comprehension} {scope:Scope} {pos py:Pos} {y:Str} {l:Nat} {env:Env} (hk:env.scope.kind=.function) (hy:env.scope.names.lookup y=some .local) (hl:(py.line==pos.line)=true)
  (ha:(scope.names.any fun (n,k)=>n==y && (k==.local || k==.cell))=false):swapsWith (.ListComp elt gs scope pos) (some (.Name y py)) l env=pure true:=by
 have ky:env.kindOf y=some .local:=hy
 have hb:env.blockKind=.function:=by unfold Env.blockKind; rw [hk]; rfl
 unfold swapsWith
 simp only [hb,ky,ha,Expr.pos,hl]
 rfl
end
theorem lc_range {lo:Int} {n:Nat} {g:TG} {tt:TT} {te:TE} {vs:List Nat} {σ:St} {H1:Hp} {D:Addr} {Qd:Hp→Prop} (Pv:Nat→Hp→Prop) (h0:Pv 0 (upd H1 D (.lst [])))
  (hs:∀ i H,i < n→Pv i H→g (.int (lo + i)) (wipe σ vs) H fun σ2 H2=>wipe σ2 vs=wipe σ vs∧tt σ2 H2 fun b H3 =>
   if b=true then te σ2 H3 fun y H4=>∃ acc,H4 D=some (.lst acc)∧acc.length < sizeLine∧Pv (i + 1) (upd H4 D (.lst (acc++[y]))) else Pv (i + 1) H3) (hd:∀ H,Pv n H→Qd H) :
  ∃ W:Nat→Nat→Hp→Prop,(∃ m,W 0 m (upd H1 D (.lst [])))∧∀ i m H,W i m H →
   ((
    Itr lo n).stop i H∧Qd H)∨((Itr lo n).go i H∧∃ Nx:Hp→Prop,(∀ H',Nx H'→∃ m',m' < m∧W (i + 1) m' H')∧∀ x H',(Itr lo n).yld i H x H'→g x (wipe σ vs) H' fun σ2 H2=>wipe σ2 vs=wipe σ vs∧tt σ2 H2 fun b H3 =>
    if b=true then te σ2 H3 fun y H4=>∃ acc,H4 D=some (.lst acc)∧acc.length < sizeLine∧Nx (upd H4 D (.lst (acc++[y]))) else Nx H3):=by
 refine ⟨fun i m H=>m=n - i∧i≤n∧Pv i H,⟨n,by simp,Nat.zero_le _,h0⟩,?_⟩
 rintro i m H ⟨rfl,hi,p⟩
 by_cases hlt:i < n
 ·refine .inr ⟨hlt,Pv (i + 1),fun H' p'=>⟨n - (i + 1),by omega,rfl,hlt,p'⟩,fun x H' y=>?_⟩
  obtain ⟨e,y⟩:=y
  subst e y
  exact hs i _ hlt p
 ·have e:i=n:=by omega
  subst e
  exact .inl ⟨Nat.le_refl _,hd H p⟩
theorem lc_list {K:PySem.W.Frag} {a:Addr} {xs:List V} {g:TG} {tt:TT} {te:TE} {vs:List Nat} {σ:St} {H1:Hp} {D:Addr} {Qd:Hp→Prop} (Pv:Nat→Hp→Prop) (h0:Pv 0 (upd H1 D (.lst []))) (hl:∀ i H,i≤xs.length→Pv i H→SqL K H a xs)
  (hs:∀ i x H,xs[i]?=some x→Pv i H→g x (wipe σ vs) H fun σ2 H2=>wipe σ2 vs=wipe σ vs∧tt σ2 H2 fun b H3 =>
   if b=true then te σ2 H3 fun y H4=>∃ acc,H4 D=some (.lst acc)∧acc.length < sizeLine∧Pv (i + 1) (upd H4 D (.lst (acc++[y]))) else Pv (i + 1) H3) (hd:∀ H,Pv xs.length H→Qd H) :
  ∃ W:Nat→Nat→Hp→Prop,(∃ m,W 0 m (upd H1 D (.lst [])))∧∀ i m H,W i m H →
   ((
    Itl K a).stop i H∧Qd H)∨((Itl K a).go i H∧∃ Nx:Hp→Prop,(∀ H',Nx H'→∃ m',m' < m∧W (i + 1) m' H')∧∀ x H',(Itl K a).yld i H x H'→g x (wipe σ vs) H' fun σ2 H2=>wipe σ2 vs=wipe σ vs∧tt σ2 H2 fun b H3 =>
    if b=true then te σ2 H3 fun y H4=>∃ acc,H4 D=some (.lst acc)∧acc.length < sizeLine∧Nx (upd H4 D (.lst (acc++[y]))) else Nx H3):=by
 refine ⟨fun i m H=>m=xs.length - i∧i≤xs.length∧Pv i H,⟨xs.length,by simp,Nat.zero_le _,h0⟩,?_⟩
 rintro i m H ⟨rfl,hi,p⟩
 have q:=hl i H hi p
 by_cases hlt:i < xs.length
 ·refine .inr ⟨⟨xs,xs[i],q,by simp [hlt]⟩,Pv (i + 1),fun H' p'=>⟨xs.length - (i + 1),by omega,rfl,hlt,p'⟩,fun x H' y=>?_⟩
  obtain ⟨e,y⟩:=y
  subst e
  exact hs i x _ (y xs q) p
 ·have e:i=xs.length:=by omega
  subst e
  exact .inl ⟨⟨xs,q,Nat.le_refl _⟩,hd H p⟩
def blkC (N:List Str) (sc scope:Scope) (own:List (Str×Nat)):Bool :=
 (match scope.kind with | .function=>true | _=>false) && (scope.names.all fun y=>decide (scope.names.lookup y.1=some y.2)) && (own.all fun p=>decide (N[p.2]?=some p.1)) &&
  (scope.names.all fun y=>match y.2 with
   | .free=>(match sc.names.lookup y.1 with | some .cell=>true | some .free=>true | _=>false)
   | .local=>decide (y.1∈own.map (·.1)) || decide (y.1 ∉ N)
   | .cell=>decide (y.1∈own.map (·.1)) || decide (y.1 ∉ N)
   | _=>true)
theorem blkOk_by {N:List Str} {sc scope:Scope} {own:List (Str×Nat)} (h:blkC N sc scope own=true):BlkOk N sc scope own:=by
 unfold blkC at h
 simp only [Bool.and_eq_true,List.all_eq_true,decide_eq_true_eq] at h
 obtain ⟨⟨⟨h1,h2⟩,h3⟩,h4⟩:=h
 refine ⟨?_,h2,h3,fun y hy e=>?_,fun y hy e=>?_⟩
 ·split at h1
  ·assumption
  ·cases h1
 ·have q:=h4 y hy
  simp only [e] at q
  split at q <;> first | exact .inl (by assumption) | exact .inr (by assumption) | cases q
 ·have q:=h4 y hy
  rcases e with e | e <;> (simp only [e,Bool.or_eq_true,decide_eq_true_eq] at q; exact q)
end L2
namespace L2
open PySem PySem.Spec PyProof.Rows
section
variable {prog:Program} {w:World} {A:Around} {R:Result→Shared→Prop} {s:Shared} {elt t0 i0 t1 i1:Expr} {ifs0 ifs1:List Expr} {scope:Scope} {pos:Pos} {it acc:Value} {env:Env}
end
section
variable {X:Cx}
end
end L2
namespace L2
open PySem PySem.Spec PyProof.Rows
section
variable {κ:Type} [DecidableEq κ]
def valV (kvs:List (κ×V)) (k:κ):Option V:=(kvs.find? fun kv=>decide (kv.1=k)).map (·.2)
def putK (kvs:List (κ×V)) (k:κ) (v:V):List (κ×V) :=
 if (kvs.any fun kv=>decide (kv.1=k))=true then kvs.map (fun kv=>if kv.1=k then (kv.1,v) else kv) else kvs++[(k,v)]
theorem valV_pos {p:κ×V} {r:List (κ×V)} {k:κ} (e:p.1=k):valV (p::r) k=some p.2:=by simp [valV,List.find?_cons,e]
theorem valV_neg {p:κ×V} {r:List (κ×V)} {k:κ} (e:¬ p.1=k):valV (p::r) k=valV r k:=by simp [valV,List.find?_cons,e]
theorem valV_any (k:κ):∀ kvs:List (κ×V),(kvs.any fun kv=>decide (kv.1=k))=(valV kvs k).isSome
 | []=>rfl
 | p::r=>by
  rw [List.any_cons]
  by_cases e:p.1=k
  ·simp only [valV_pos e,decide_eq_true e,Bool.true_or,Option.isSome_some]
  ·rw [valV_neg e,decide_eq_false e,Bool.false_or]; exact valV_any k r
theorem valV_map (k j:κ) (y:V):∀ kvs:List (κ×V),valV (kvs.map fun kv=>if kv.1=k then (kv.1,y) else kv) j=(valV kvs j).map fun x=>if j=k then y else x
 | []=>rfl
 | p::r=>by
  have ih:=valV_map k j y r
  rw [List.map_cons]
  by_cases h:p.1=k
  ·rw [if_pos h]
   by_cases e:p.1=j
   ·rw [valV_pos (p:=(p.1,y)) e,valV_pos e,Option.map_some,if_pos (e.symm.trans h)]
   ·rw [valV_neg (p:=(p.1,y)) e,valV_neg e,ih]
  ·rw [if_neg h]
   by_cases e:p.1=j
   ·rw [valV_pos (p:=p) e,valV_pos e,Option.map_some,if_neg (fun z=>h (e.trans z))]
   ·rw [valV_neg (p:=p) e,valV_neg e,ih]
theorem valV_snoc (k j:κ) (y:V):∀ kvs:List (κ×V),valV kvs k=none→valV (kvs++[(k,y)]) j=if j=k then some y else valV kvs j
 | [],_=>by
  by_cases e:k=j
  ·rw [if_pos e.symm]; exact valV_pos (p:=(k,y)) e
  ·rw [if_neg (fun z=>e z.symm)]; exact valV_neg (p:=(k,y)) e
 | p::r,hn=>by
  rw [List.cons_append]
  have hk:¬ p.1=k:=fun z=>by rw [valV_pos z] at hn; cases hn
  rw [valV_neg hk] at hn
  have ih:=valV_snoc k j y r hn
  by_cases e:p.1=j
  ·rw [valV_pos e,valV_pos e,if_neg (fun z=>hk (e.trans z))]
  ·rw [valV_neg e,valV_neg e,ih]
theorem valV_put (kvs:List (κ×V)) (k j:κ) (y:V):valV (putK kvs k y) j=if j=k then some y else valV kvs j:=by
 unfold putK
 by_cases a:(kvs.any fun kv=>decide (kv.1=k))=true
 ·rw [if_pos a,valV_map]
  rw [valV_any] at a
  by_cases e:j=k
  ·obtain ⟨x,hx⟩:=Option.isSome_iff_exists.mp a
   rw [if_pos e,e,hx,Option.map_some,if_pos rfl]
  ·rw [if_neg e]
   cases valV kvs j with
   | none=>rfl
   | some x=>rw [Option.map_some,if_neg e]
 ·rw [if_neg a]
  refine valV_snoc k j y kvs ?_
  rw [valV_any] at a
  cases q:valV kvs k with
  | none=>rfl
  | some x=>rw [q] at a; exact (a rfl).elim
theorem length_putK (kvs:List (κ×V)) (k:κ) (v:V):(putK kvs k v).length≤kvs.length + 1:=by
 unfold putK
 split
 ·rw [List.length_map]; omega
 ·rw [List.length_append,List.length_cons,List.length_nil]; omega
theorem putK_new {kvs:List (κ×V)} {k:κ} (v:V) (h:valV kvs k=none):putK kvs k v=kvs++[(k,v)]:=by
 unfold putK
 rw [valV_any,h]
 exact if_neg (by decide)
theorem RelO.isSome_eq {o:Option V} {u:Option Value} (r:RelO o u):o.isSome=u.isSome:=by
 cases o with
 | none=>cases u with
  | none=>rfl
  | some _=>exact (show False from r).elim
 | some _=>cases u with
  | none=>exact (show False from r).elim
  | some _=>rfl
theorem RelO.getD {o:Option V} {u:Option Value} {d:V} {d':Value} (r:RelO o u) (rd:RelV d d'):RelV (o.getD d) (u.getD d'):=by
 cases o with
 | none=>cases u with
  | none=>exact rd
  | some _=>exact (show False from r).elim
 | some _=>cases u with
  | none=>exact (show False from r).elim
  | some _=>exact r
theorem KV.val {kvs:List (κ×V)} {vs:List (κ×Value)} (r:KV kvs vs) (k:κ):RelO (valV kvs k) (valueAt vs k):=by
 unfold KV at r
 induction r with
 | nil=>exact True.intro
 | @cons p q ps qs h t ih =>
  obtain ⟨h1,h2⟩:=h
  by_cases e:p.1=k
  ·have e':q.1=k:=h1.symm.trans e
   have b:valueAt (q::qs) k=some q.2:=by simp [valueAt,List.find?_cons,e']
   rw [valV_pos e,b]; exact h2
  ·have e':¬ q.1=k:=fun z=>e (h1.trans z)
   have b:valueAt (q::qs) k=valueAt qs k:=by simp [valueAt,List.find?_cons,e']
   rw [valV_neg e,b]; exact ih
theorem KV.any {kvs:List (κ×V)} {vs:List (κ×Value)} (r:KV kvs vs) (k:κ):(kvs.any fun kv=>decide (kv.1=k))=vs.any fun kv=>decide (kv.1=k):=by
 unfold KV at r
 induction r with
 | nil=>rfl
 | cons h t ih=>rw [List.any_cons,List.any_cons,ih,h.1]
theorem KV.repl {kvs:List (κ×V)} {vs:List (κ×Value)} (r:KV kvs vs) (k:κ) {y:V} {u:Value} (ry:RelV y u) :
  KV (kvs.map fun kv=>if kv.1=k then (kv.1,y) else kv) (vs.map fun kv=>if kv.1=k then (kv.1,u) else kv):=by
 unfold KV at r ⊢
 induction r with
 | nil=>exact .nil
 | @cons p q ps qs h t ih =>
  rw [List.map_cons,List.map_cons]
  refine .cons ?_ ih
  obtain ⟨h1,h2⟩:=h
  by_cases e:p.1=k
  ·rw [if_pos e,if_pos (h1.symm.trans e)]; exact ⟨h1,ry⟩
  ·rw [if_neg e,if_neg (fun z=>e (h1.trans z))]; exact ⟨h1,h2⟩
theorem KV.put {kvs:List (κ×V)} {vs:List (κ×Value)} (r:KV kvs vs) (k:κ) {y:V} {u:Value} (ry:RelV y u):KV (putK kvs k y) (stored vs k u):=by
 unfold putK stored
 rw [r.any k]
 by_cases e:(vs.any fun kv=>decide (kv.1=k))=true
 ·rw [if_pos e,if_pos e]; exact r.repl k ry
 ·rw [if_neg e,if_neg e]; exact Paired.snoc r ⟨rfl,ry⟩
theorem KV.length {kvs:List (κ×V)} {vs:List (κ×Value)} (r:KV kvs vs):kvs.length=vs.length:=Paired.length r
end
theorem kV_is {P:Program} {w:World} {k:Key} {u:Value} (r:RelV (kV k) u):(mixKind P w).is k u=true:=by
 cases k with
 | inl i=>obtain ⟨t,e⟩:=(show ∃ t,u=Value.int i t from r); subst e; exact mixKind_int P w i t
 | inr x=>obtain ⟨t,e⟩:=(show ∃ t,u=Value.str x t from r); subst e; exact mixKind_str P w x t
theorem items_are {P:Program} {w:World}:∀ {ks:List Key} {us:List Value},Vals (ks.map kV) us→ItemsAre (mixKind P w) ks us
 | [],_,r=>by rw [List.map_nil] at r; cases r; exact .nil
 | k::ks,_,r=>by
  rw [List.map_cons] at r
  cases r with
  | cons h t=>exact .cons (kV_is h) (items_are t)
abbrev KT (H:Hp):List (List Key×V)→List (List Key×Addr×Value)→Prop:=Paired fun p q=>p.1=q.1∧H q.2.1=some (.tup (p.1.map kV))∧RelV p.2 q.2.2
theorem KT.val {H:Hp} {kvs:List (List Key×V)} {xs:List (List Key×Addr×Value)} (r:KT H kvs xs) (k:List Key):RelO (valV kvs k) ((atKey xs k).map (·.2)):=by
 induction r with
 | nil=>exact True.intro
 | @cons p q ps qs h t ih =>
  obtain ⟨h1,_,h2⟩:=h
  by_cases e:p.1=k
  ·have e':q.1=k:=h1.symm.trans e
   have b:atKey (q::qs) k=some q.2:=by simp [atKey,List.find?_cons,e']
   rw [valV_pos e,b]; exact h2
  ·have e':¬ q.1=k:=fun z=>e (h1.trans z)
   have b:atKey (q::qs) k=atKey qs k:=by simp [atKey,List.find?_cons,e']
   rw [valV_neg e,b]; exact ih
theorem KT.repl {H:Hp} {kvs:List (List Key×V)} {xs:List (List Key×Addr×Value)} (r:KT H kvs xs) (k:List Key) {y:V} {u:Value} (ry:RelV y u) :
  KT H (kvs.map fun kv=>if kv.1=k then (kv.1,y) else kv) (xs.map (putAt k u)):=by
 induction r with
 | nil=>exact .nil
 | @cons p q ps qs h t ih =>
  rw [List.map_cons,List.map_cons]
  refine .cons ?_ ih
  obtain ⟨h1,h2,h3⟩:=h
  unfold putAt
  by_cases e:p.1=k
  ·rw [if_pos e,if_pos (h1.symm.trans e)]; exact ⟨h1,h2,ry⟩
  ·rw [if_neg e,if_neg (fun z=>e (h1.trans z))]; exact ⟨h1,h2,h3⟩
theorem KT.put {H:Hp} {kvs:List (List Key×V)} {xs:List (List Key×Addr×Value)} (r:KT H kvs xs) (k:List Key) {b:Addr} {y:V} {u:Value} (hb:H b=some (.tup (k.map kV))) (ry:RelV y u) :
  KT H (putK kvs k y) (storedH xs k b u):=by
 have e:(kvs.any fun kv=>decide (kv.1=k))=(atKey xs k).isSome:=by
  rw [valV_any,(r.val k).isSome_eq,Option.isSome_map]
 unfold putK storedH
 rw [e]
 by_cases q:(atKey xs k).isSome=true
 ·rw [if_pos q,if_pos q]; exact r.repl k ry
 ·rw [if_neg q,if_neg q]; exact Paired.snoc r ⟨rfl,hb,ry⟩
theorem KT.keeps {H H':Hp} {kvs:List (List Key×V)} {xs:List (List Key×Addr×Value)} (r:KT H kvs xs) (ht:∀ b ys,H b=some (.tup ys)→H' b=some (.tup ys)):KT H' kvs xs :=
 Paired.mapP r fun _ _ z=>⟨z.1,ht _ _ z.2.1,z.2.2⟩
section
variable {P:Program} {w:World} {H:Hp} {h:Heap} {a:Addr}
theorem rd_of {u:HO} (ok:HOk P w H h) (e:Rd H a u):ObjOk P w H h a u:=e.ok ok
theorem dk_rd {kvs:List (Key×V)} (ok:HOk P w H h) (e:Rd H a (.dK kvs)):kvs.length≤sizeLine∧(a==sysModules)=false∧∃ vs,KV kvs vs∧h.DictOf (mixKind P w) a vs :=
 show ObjOk P w H h a (.dK kvs) from rd_of ok e
theorem dk_of {kvs:List (Key×V)} (ok:HOk P w H h) (e:H a=some (.dK kvs)):kvs.length≤sizeLine∧(a==sysModules)=false∧∃ vs,KV kvs vs∧h.DictOf (mixKind P w) a vs:=dk_rd ok (.inl e)
theorem key_of {ks:List Key} (ok:HOk P w H h) (e:H a=some (.tup (ks.map kV))):(tupleKind (mixKind P w)).is h ks a:=by
 obtain ⟨_,its,r,o,h1,h2,n,h3⟩:=(show ObjOk P w H h a (.tup (ks.map kV)) from ok a _ e)
 exact ⟨o,its.toArray,n,h1,h2,h3,by simpa using items_are r⟩
theorem dt_rd {kvs:List (List Key×V)} (ok:HOk P w H h) (e:Rd H a (.dT kvs)):kvs.length≤sizeLine∧(a==sysModules)=false ∧
  ∃ xs,KT H kvs xs∧h.DictOfH (tupleKind (mixKind P w)) a xs:=by
 obtain ⟨z,y,xs,r,o,es,ep,h1,h2,h3,h4,h5⟩:=(show ObjOk P w H h a (.dT kvs) from rd_of ok e)
 refine ⟨z,y,xs,r,o,es,ep,h1,h2,h3,h4,fun x hx=>?_,h5⟩
 have all:∀ {l:List (List Key×V)} {m:List (List Key×Addr×Value)},KT H l m→∀ x∈m,(tupleKind (mixKind P w)).is h x.1 x.2.1:=by
  intro l m q
  induction q with
  | nil=>intro x hx; exact nomatch hx
  | @cons p q ps qs hq t ih =>
   intro x hx
   rcases List.mem_cons.mp hx with e | hx
   ·subst e
    exact key_of ok (by rw [←hq.1]; exact hq.2.1)
   ·exact ih x hx
 exact all r x hx
theorem dt_of {kvs:List (List Key×V)} (ok:HOk P w H h) (e:H a=some (.dT kvs)):kvs.length≤sizeLine∧(a==sysModules)=false ∧
  ∃ xs,KT H kvs xs∧h.DictOfH (tupleKind (mixKind P w)) a xs:=dt_rd ok (.inl e)
end
def DGet (H:Hp) (a:Addr) (y:V) (r:Option V):Prop :=
 (∃ kvs k,Rd H a (.dK kvs)∧y=kV k∧r=valV kvs k)∨∃ kvs k b,Rd H a (.dT kvs)∧y=.ref b∧H b=some (.tup (k.map kV))∧r=valV kvs k
def DPut (H:Hp) (a:Addr) (y v:V) (H':Hp):Prop :=
 (∃ kvs k,H a=some (.dK kvs)∧y=kV k∧kvs.length < sizeLine∧H'=upd H a (.dK (putK kvs k v))) ∨
 ∃ kvs k b,H a=some (.dT kvs)∧y=.ref b∧H b=some (.tup (k.map kV))∧kvs.length < sizeLine∧H'=upd H a (.dT (putK kvs k v))
theorem DGet.k {H:Hp} {a:Addr} {kvs:List (Key×V)} {k:Key} (e:H a=some (.dK kvs)):DGet H a (kV k) (valV kvs k):=.inl ⟨kvs,k,.inl e,rfl,rfl⟩
theorem DPut.k {H:Hp} {a:Addr} {kvs:List (Key×V)} {k:Key} {v:V} (e:H a=some (.dK kvs)) (hl:kvs.length < sizeLine):DPut H a (kV k) v (upd H a (.dK (putK kvs k v))):=.inl ⟨kvs,k,e,rfl,hl,rfl⟩
section
variable {X:Cx} {pins:List (Addr×Obj)} {σ:St} {H:Hp} {s:Shared} {a:Addr} {y v:V} {u r:Value} {o:Option V} {A:Around} {E:Value→Shared→Prop}
theorem Inv.big (I:Inv X pins σ H s):sysModules < s.heap.objs.size:=by
 have h:mainGlobals < s.heap.objs.size:=(I.mod.glob.keeps I.bk).lt
 exact Nat.lt_trans (by decide) h
theorem d_getItem {Q:Value→Shared→Prop} (hu:A.units + 1 < cLine) (I:Inv X pins σ H s) (g:DGet H a y (some v)) (ry:RelV y u) (h:∀ w' s',Inv X pins σ H s'→RelV v w'→Q w' s') :
  wpAny (model X.prog X.w) A (getItem (.ref a) u) Q E s:=by
 rcases g with ⟨kvs,k,e,ey,l⟩ | ⟨kvs,k,b,e,ey,eb,l⟩
 ·subst ey
  obtain ⟨z,hd,vs,rel,dd⟩:=dk_rd I.hok e
  obtain ⟨w',hw,rw'⟩:=RelO.some_of (v:=v) (o:=valueAt vs k) (by rw [l]; exact rel.val k)
  exact wpAny_getItem_of (kV_is ry) dd.mapOf hw (h w' _ (I.tok _) rw')
 ·subst ey
  cases (show u=Value.ref b from ry)
  obtain ⟨z,hd,xs,rel,dd⟩:=dt_rd I.hok e
  obtain ⟨w',hw,rw'⟩:=RelO.some_of (v:=v) (o:=(atKey xs k).map (·.2)) (by rw [l]; exact rel.val k)
  obtain ⟨p,hp,hp2⟩:=Option.map_eq_some_iff.mp hw
  refine wpAny_getItem_heap (tupleKind_room_in1 hu) (key_of I.hok eb) dd hp ?_
  rw [hp2]
  exact h w' _ (I.tok _) rw'
theorem d_in {Q:Value→Shared→Prop} (hu:A.units + 1 < cLine) (I:Inv X pins σ H s) (g:DGet H a y o) (ry:RelV y u) (h:∀ s',Inv X pins σ H s'→Q (.bool o.isSome) s') :
  wpAny (model X.prog X.w) A (compareOp .In u (.ref a)) Q E s:=by
 rcases g with ⟨kvs,k,e,ey,l⟩ | ⟨kvs,k,b,e,ey,eb,l⟩
 ·subst ey
  obtain ⟨z,hd,vs,rel,dd⟩:=dk_rd I.hok e
  refine wpAny_in_of (kV_is ry) hd dd.mapOf ?_
  rw [←(rel.val k).isSome_eq,←l]
  exact h _ (I.tok _)
 ·subst ey
  cases (show u=Value.ref b from ry)
  obtain ⟨z,hd,xs,rel,dd⟩:=dt_rd I.hok e
  refine wpAny_in_heap (tupleKind_room_in1 hu) (key_of I.hok eb) hd dd ?_
  have q:=(rel.val k).isSome_eq
  rw [Option.isSome_map] at q
  rw [←q,←l]
  exact h _ (I.tok _)
theorem d_notIn {Q:Value→Shared→Prop} (hu:A.units + 1 < cLine) (I:Inv X pins σ H s) (g:DGet H a y o) (ry:RelV y u) (h:∀ s',Inv X pins σ H s'→Q (.bool (!o.isSome)) s') :
  wpAny (model X.prog X.w) A (compareOp .NotIn u (.ref a)) Q E s:=by
 rcases g with ⟨kvs,k,e,ey,l⟩ | ⟨kvs,k,b,e,ey,eb,l⟩
 ·subst ey
  obtain ⟨z,hd,vs,rel,dd⟩:=dk_rd I.hok e
  refine wpAny_notIn_of (kV_is ry) hd dd.mapOf ?_
  rw [←(rel.val k).isSome_eq,←l]
  exact h _ (I.tok _)
 ·subst ey
  cases (show u=Value.ref b from ry)
  obtain ⟨z,hd,xs,rel,dd⟩:=dt_rd I.hok e
  refine wpAny_notIn_heap (tupleKind_room_in1 hu) (key_of I.hok eb) hd dd ?_
  have q:=(rel.val k).isSome_eq
  rw [Option.isSome_map] at q
  rw [←q,←l]
  exact h _ (I.tok _)
theorem d_write {h':Heap} {t':Nat} {ob:HO} (I:Inv X pins σ H s) (mu:Mut (H a)) (hs:Heap.SameBut a s.heap h') (he:∃ q,h'.get? a=some q) (new:ObjOk X.prog X.w (upd H a ob) h' a ob) :
  Inv X pins σ (upd H a ob) { s with heap:=h',toks:=t' } :=
 I.write (x:=a) (e:=a) mu (.inl rfl) (fun b q hb z=>(hs.2 b hb).trans z) he new
theorem dk_new {P:Program} {w:World} {H':Hp} {h':Heap} {kvs:List (Key×V)} {vs:List (Key×Value)} (z:kvs.length≤sizeLine) (hd:(a==sysModules)=false) (rel:KV kvs vs) (dd:h'.DictOf (mixKind P w) a vs) :
  ObjOk P w H' h' a (.dK kvs):=⟨z,hd,vs,rel,dd⟩
theorem d_setItem {H':Hp} {Q:Unit→Shared→Prop} (hu:A.units + 1 < cLine) (I:Inv X pins σ H s) (g:DPut H a y v H') (ry:RelV y u) (rv:RelV v r) (h:∀ s',Inv X pins σ H' s'→Q () s') :
  wpAny (model X.prog X.w) A (setItem (.ref a) u r) Q E s:=by
 rcases g with ⟨kvs,k,e,ey,l,eH⟩ | ⟨kvs,k,b,e,ey,eb,l,eH⟩
 ·subst ey eH
  obtain ⟨z,hd,vs,rel,dd⟩:=dk_of I.hok e
  have hz:vs.length≤sizeLine:=by rw [←rel.length]; exact z
  have hl:(putK kvs k v).length≤sizeLine:=by have:=length_putK kvs k v; omega
  refine wpAny_setItem_pairs (hsz:=hz) (kV_is ry) dd fun h' dd' hs=>h _ ?_
  have he:∃ q,h'.get? a=some q:=let ⟨q,_,_,hq,_⟩:=dd'; ⟨q,hq⟩
  exact d_write I (by rw [e]; exact True.intro) hs he (dk_new hl hd (rel.put k rv) dd')
 ·subst ey eH
  cases (show u=Value.ref b from ry)
  obtain ⟨z,hd,xs,rel,dd⟩:=dt_of I.hok e
  have hz:xs.length≤sizeLine:=by rw [←Paired.length rel]; exact z
  have hl:(putK kvs k v).length≤sizeLine:=by have:=length_putK kvs k v; omega
  refine wpAny_setItem_heap (hsz:=hz) (tupleKind_room_in1 hu) (key_of I.hok eb) dd fun h' dd' hs=>h _ ?_
  obtain ⟨q,es,ep,hq,h2,h3,h4,_,h5⟩:=dd'
  refine d_write I (by rw [e]; exact True.intro) hs ⟨q,hq⟩ ⟨hl,hd,_,(rel.put k eb rv).keeps fun c ys ec=>?_,q,es,ep,hq,h2,h3,h4,h5⟩
  rw [upd_ne (ne_of ec e (fun z=>nomatch z))]
  exact ec
end
section
variable {X:Cx} {pins:List (Addr×Obj)} {σ:St} {H:Hp} {s:Shared} {a:Addr} {kvs:List (Key×V)} {k:Key} {u:Value} {A:Around} {E:Value→Shared→Prop}
theorem d_len {Q:Value→Shared→Prop} (I:Inv X pins σ H s) (e:Rd H a (.dK kvs)) (h:∀ t s',Inv X pins σ H s'→Q (.int kvs.length t) s'):wpAny (model X.prog X.w) A (call (.builtin "len") [.ref a]) Q E s:=by
 obtain ⟨z,hd,vs,rel,dd⟩:=dk_rd I.hok e
 refine call_len_dict hd dd (by rw [←rel.length]; rw [sizeLine_eq] at z; omega) ?_
 rw [←rel.length]
 exact h _ _ (I.tok _)
end
def NoSl (i:Expr):Prop:=∀ ov iv,subscripted i false ov iv=operate [ov,iv] (getItem ov iv)
theorem subD_of {prog:Program} {w:World} {A:Around} {E:Value→Shared→Prop} {s:Shared} {env:Env} {value slice:Expr} {pos:Pos} {T id:String} {Q:Value→Shared→Prop}
  (hl:typeLookup (.type T) "__getitem__"=pure (some (.builtin id))) (hs:NoSl slice)
  (h:wpAny (model prog w) A (eval value env) (fun o s₁=>wpAny (model prog w) A (eval slice env) (fun i s₂=>s₂.TypeIs o T∧wpAny (model prog w) A (getItem o i) Q E s₂) E s₁) E s) :
  wpAny (model prog w) A (eval (.Subscript value slice pos) env) Q E s:=by
 refine Subscript_ (wpAny_mono h (fun o s₁ h₁=>wpAny_mono h₁ (fun i s₂ h₂=>?_) fun _ _ x=>x) fun _ _ x=>x)
 obtain ⟨hT,h₂⟩:=h₂
 unfold subscriptTail
 refine wpAny_bind ?_
 rw [getitemInPython_of_ne hT.not_modules]
 refine wpAny_bind (wpAny_specialOf hT hl ?_)
 have fin:wpAny (model prog w) A (subscripted slice false o i) (fun r s₃=>wpAny (model prog w) A (letTemporaryGo value o r >>= fun _=>pure r) Q E s₃) E s₂:=by
  rw [hs o i]
  exact wpAny_operating (wpAny_mono h₂ (fun r s₃ h₃=>wpAny_bind (wpAny_letTemporaryGo (wpAny_pure h₃))) fun _ _ x=>x)
 first
  | exact wpAny_pure (wpAny_bind fin)
  | exact wpAny_bind (wpAny_pure (wpAny_bind fin))
  | exact wpAny_bind fin
theorem dict_typeIs {X:Cx} {pins:List (Addr×Obj)} {σ:St} {H:Hp} {s:Shared} {a:Addr} {y:V} {o:Option V} (I:Inv X pins σ H s) (g:DGet H a y o):s.TypeIs (.ref a) "dict":=by
 rcases g with ⟨kvs,k,e,_,_⟩ | ⟨kvs,k,b,e,_,_,_⟩
 ·obtain ⟨_,_,vs,_,dd⟩:=dk_rd I.hok e
  exact dd.typeIs
 ·obtain ⟨_,_,xs,_,dd⟩:=dt_rd I.hok e
  exact dd.typeIs
def tDGet (td ty:TE):TE:=fun σ H Q=>td σ H fun x H1=>ty σ H1 fun y H2=>∃ a v,x=.ref a∧DGet H2 a y (some v)∧Q v H2
def tDIn (ty td:TE):TE:=fun σ H Q=>ty σ H fun y H1=>td σ H1 fun x H2=>∃ a o,x=.ref a∧DGet H2 a y o∧Q (.bl o.isSome) H2
def tDNotIn (ty td:TE):TE:=fun σ H Q=>ty σ H fun y H1=>td σ H1 fun x H2=>∃ a o,x=.ref a∧DGet H2 a y o∧Q (.bl (!o.isSome)) H2
def sDPut (td ty tv:TE):TS:=fun D σ H=>tv σ H fun v H1=>td σ H1 fun x H2=>ty σ H2 fun y H3=>∃ a H4,x=.ref a∧DPut H3 a y v H4∧D.nx σ H4
section
variable {X:Cx} {o i e value:Expr} {pos pos' tpos:Pos} {td ty tv:TE}
theorem pe_dget (hu:X.A.units + 1 < cLine) (ho:PE X o td) (hi:PE X i ty) (hs:NoSl i):PE X (.Subscript o i pos) (tDGet td ty):=by
 intro pins s σ H Q I h
 refine subD_of PySem.F.slot_dict_getitem.lookup hs (thn (ho pins s σ H _ I h) fun u s1 ⟨x,H1,I1,rx,q1⟩=>thn (hi pins s1 σ H1 _ I1 q1) fun iv s2 ⟨y,H2,I2,ry,a,v,ex,g,q2⟩=>?_)
 subst ex
 obtain rfl:u=Value.ref a:=rx
 exact ⟨dict_typeIs I2 g,d_getItem hu I2 g ry fun w' s3 I3 rw'=>⟨v,H2,I3,rw',q2⟩⟩
theorem pc_din (hu:X.A.units + 1 < cLine) (hi:PE X i ty) (ho:PE X o td):PC X .In i o (tDIn ty td):=by
 intro pins s σ H Q I h
 refine thn (hi pins s σ H _ I h) fun iv s1 ⟨y,H1,I1,ry,q1⟩=>thn (ho pins s1 σ H1 _ I1 q1) fun u s2 ⟨x,H2,I2,rx,a,ov,ex,g,q2⟩=>?_
 subst ex
 obtain rfl:u=Value.ref a:=rx
 exact d_in hu I2 g ry fun s3 I3=>⟨.bl ov.isSome,H2,I3,rfl,q2⟩
theorem pc_dnotin (hu:X.A.units + 1 < cLine) (hi:PE X i ty) (ho:PE X o td):PC X .NotIn i o (tDNotIn ty td):=by
 intro pins s σ H Q I h
 refine thn (hi pins s σ H _ I h) fun iv s1 ⟨y,H1,I1,ry,q1⟩=>thn (ho pins s1 σ H1 _ I1 q1) fun u s2 ⟨x,H2,I2,rx,a,ov,ex,g,q2⟩=>?_
 subst ex
 obtain rfl:u=Value.ref a:=rx
 exact d_notIn hu I2 g ry fun s3 I3=>⟨.bl (!ov.isSome),H2,I3,rfl,q2⟩
theorem ps_dput (hu:X.A.units + 1 < cLine) (ho:PE X o td) (hi:PE X i ty) (hv:PE X value tv) (hs:swapsWith value (some (.Subscript o i pos')) pos.line X.env=pure false) :
  PS X (.Assign [.Subscript o i pos'] value pos) (sDPut td ty tv):=by
 intro pins s σ H D I h
 refine wpAny_Assign_Subscript (thn (hv pins s σ H _ I h) fun r s1 ⟨v,H1,I1,rv,q1⟩=>thn (ho pins s1 σ H1 _ I1 q1) fun u s2 ⟨x,H2,I2,rx,q2⟩=>thn (hi pins s2 σ H2 _ I2 q2) fun iv s3 ⟨y,H3,I3,ry,a,H4,ex,g,q3⟩=>?_) hs
 subst ex
 obtain rfl:u=Value.ref a:=rx
 exact d_setItem hu I3 g ry rv fun s4 I4=>⟨σ,H4,I4,q3⟩
end
theorem dk_empty {P:Program} {w:World} {H:Hp} (h:Heap) (hb:sysModules < h.objs.size):ObjOk P w H (h.push { cls:=.type "dict",data:=.dict #[] }) h.objs.size (.dK []) :=
 ⟨Nat.zero_le _,beq_eq_false_iff_ne.mpr (Ne.symm (Nat.ne_of_lt hb)),[],.nil,Heap.DictOf.new h⟩
def tDNewK:TE:=fun _ H Q=>∀ p,H p=none→Q (.ref p) (upd H p (.dK []))
section
variable {X:Cx} {pos:Pos}
theorem pe_dnewK:PE X (.Dict [] [] pos) tDNewK:=fun pins s σ H Q I h =>
 wpAny_Dict_empty ⟨.ref s.heap.objs.size,_,I.laid (a:=s.heap.objs.size) (o:=.dK []) (t':=s.toks) (fun _ _ q=>Heap.get?_push_of_some _ q) (Nat.le_refl _) (dk_empty s.heap I.big),rfl,h _ (I.hok.fresh (Nat.le_refl _))⟩
end
structure M2 (X:Cx) (o:Expr) (m:Str) (apos:Pos) (e f:Expr) (cpos:Pos):Prop where
 base:attributeBase o m X.env (eval o X.env)=eval o X.env
 few:((backTo cpos (starEach [e,f] X.env)).all (fun x=>!x.1) && (backToKw cpos (keywordEach [] X.env)).all (fun x=>x.1.isSome)
  && decide (([e,f]:List Expr).length + ([]:List Keyword).length + (if ([]:List Keyword).isEmpty then 0 else 1) < 30))=true
 line:(apos.endLine==cpos.line)=true
 trees:backTo cpos (starEach [e,f] X.env)=[(false,eval e X.env),(false,eval f X.env)]
def IsD (H:Hp) (a:Addr):Prop:=(∃ kvs,Rd H a (.dK kvs))∨∃ kvs,Rd H a (.dT kvs)
theorem isD_at {X:Cx} {pins:List (Addr×Obj)} {σ:St} {H:Hp} {s:Shared} {a:Addr} (I:Inv X pins σ H s) (d:IsD H a) :
  s.TypeIs (.ref a) "dict"∧(∀ b,Value.ref a=.ref b→∃ ob,s.heap.get? b=some ob∧ob.dict=none)∧(a==sysModules)=false:=by
 rcases d with ⟨kvs,e⟩ | ⟨kvs,e⟩
 ·obtain ⟨_,hd,vs,_,dd⟩:=dk_rd I.hok e
  refine ⟨dd.typeIs,fun b q=>?_,hd⟩
  cases q
  obtain ⟨ob,_,_,h1,h2,_⟩:=dd
  exact ⟨ob,h1,h2.2.1⟩
 ·obtain ⟨_,hd,xs,_,dd⟩:=dt_rd I.hok e
  refine ⟨dd.typeIs,fun b q=>?_,hd⟩
  cases q
  obtain ⟨ob,_,_,h1,h2,_⟩:=dd
  exact ⟨ob,h1,h2.2.1⟩
section
variable {X:Cx} {pins:List (Addr×Obj)} {σ:St} {H:Hp} {s:Shared} {a:Addr} {y d:V} {u r:Value} {o:Option V} {A:Around} {E:Value→Shared→Prop}
theorem d_get2 {Q:Value→Shared→Prop} (hu:A.units + 1 < cLine) (I:Inv X pins σ H s) (g:DGet H a y o) (ry:RelV y u) (rd:RelV d r) (h:∀ w' s',Inv X pins σ H s'→RelV (o.getD d) w'→Q w' s') :
  wpAny (model X.prog X.w) A (call (.builtin "dict.get") [.ref a,u,r]) Q E s:=by
 rcases g with ⟨kvs,k,e,ey,l⟩ | ⟨kvs,k,b,e,ey,eb,l⟩
 ·subst ey
  obtain ⟨z,hd,vs,rel,dd⟩:=dk_rd I.hok e
  refine call_meetsIn PySem.F.slot_dict_get dd.typeIs PySem.F.entry_dict_get (PySem.F.args_dict_get_3 _ _ _) (meets_dict_get_default (mixKind X.prog X.w) a (kV_is ry) hd r) ⟨_,dd.mapOf,h _ _ (I.tok _) ?_⟩
  rw [l]
  exact (rel.val k).getD rd
 ·subst ey
  cases (show u=Value.ref b from ry)
  obtain ⟨z,hd,xs,rel,dd⟩:=dt_rd I.hok e
  refine call_meetsIn PySem.F.slot_dict_get dd.typeIs PySem.F.entry_dict_get (PySem.F.args_dict_get_3 _ _ _) (meetsH_dict_get_default (tupleKind (mixKind X.prog X.w)) a b hd r) ⟨tupleKind_room_in1 hu,k,xs,key_of I.hok eb,dd,h _ _ (I.tok _) ?_⟩
  rw [l]
  exact (rel.val k).getD rd
end
def tDGet2 (td ty tx:TE):TE:=fun σ H Q=>td σ H fun x H1=>∃ a,x=.ref a∧IsD H1 a∧ty σ H1 fun y H2=>tx σ H2 fun z H3=>∃ o,DGet H3 a y o∧Q (o.getD z) H3
section
variable {X:Cx} {o e f:Expr} {apos cpos:Pos} {td ty tx:TE}
theorem pe_dget2 (hu:X.A.units + 1 < cLine) (ho:PE X o td) (he:PE X e ty) (hf:PE X f tx) (m:M2 X o "get" apos e f cpos):PE X (.Call (.Attribute o "get" apos) [e,f] [] cpos) (tDGet2 td ty tx):=by
 intro pins s σ H Q I h
 refine wpAny_Call_method m.base m.few m.line PySem.F.plainAttrs_dict PySem.F.slot_dict_get PySem.F.type_dict_get (thn (ho pins s σ H _ I h) fun u s1 ⟨x,H1,I1,rx,a,ex,d,q1⟩=>?_)
 subst ex
 obtain rfl:u=Value.ref a:=rx
 obtain ⟨t1,t2,_⟩:=isD_at I1 d
 refine ⟨t1,t2,?_⟩
 rw [m.trees]
 refine Calls.callWith_builtin rfl (Calls.evalArgs_plain (Calls.spliced_cons (thn (he pins s1 σ H1 _ I1 q1) fun iv s2 ⟨y,H2,I2,ry,q2⟩ =>
  Calls.spliced_cons (thn (hf pins s2 σ H2 _ I2 q2) fun fv s3 ⟨z,H3,I3,rz,ov,g,q3⟩=>Calls.spliced_nil ?_))))
 exact d_get2 hu I3 g ry rz fun w' s4 I4 rw'=>⟨_,H3,I4,rw',q3⟩
end
section
variable {X:Cx} {pins:List (Addr×Obj)} {σ:St} {H:Hp} {s:Shared} {a:Addr} {kvs:List (Key×V)} {A:Around} {E:Value→Shared→Prop}
end
section
variable {X:Cx} {pins:List (Addr×Obj)} {σ:St} {H:Hp} {s:Shared} {a:Addr} {y:V} {u:Value} {A:Around} {E:Value→Shared→Prop}
end
end L2
namespace L2
open PySem PySem.Spec PyProof.Rows
section
variable {prog:Program} {w:World} {A:Around} {E:Value→Shared→Prop}
end
section
variable {X:Cx}
end
end L2
namespace L2
open PySem PySem.Spec PyProof.Rows
theorem boot_reversed5:bootBuiltins "reversed"=some (.type "reversed"):=by decide +kernel
section
variable {X:Cx} {pins:List (Addr×Obj)} {σ:St} {H:Hp} {s:Shared} {h':Heap}
theorem Inv.turnedL {t':Nat} {ch:List Addr} (I:Inv X pins σ H s) (k:∀ b o,b ∉ ch→s.heap.get? b=some o→h'.get? b=some o) (hf:∀ b∈ch,FpOk X pins H b):Inv X pins σ H { s with heap:=h',toks:=t' }:=by
 have nit:∀ b u,H b=some u→b ∉ ch:=fun b u e z=>by
  have q:=(hf b z).1
  rw [q] at e; cases e
 refine I.step (g':=s.gens) (d':=s.drawn) (ch:=ch) (fun b hb=>⟨(hf b hb).2.2.2.1,(hf b hb).2.1,(hf b hb).2.2.2.2.1,(hf b hb).2.2.2.2.2⟩) (fun b o _ _ hc e _=>k b o hc e) (fun b o _ _ hc e _=>⟨o.slots,k b o hc e⟩)
  (fun _ _ _ _ n=>n) (fun b o hc e=>⟨o,k b o hc e⟩) (fun _ _ e=>e) (fun _ _ _ e=>e) (fun b ps e=>⟨#[],by rw [e]; simp⟩) (fun m hm=>?_) (fun b u e=>?_) I.bare
 ·obtain ⟨o,es,ep,ho,r⟩:=hm
  exact ⟨o,es,ep,k _ o (fun z=>(hf _ z).2.1 rfl) ho,r⟩
 ·refine (I.hok b u e).stay (fun c v hc q=>k c v ?_ q) (fun _ q=>q) fun _ _ q=>q
  rcases hc with z | z
  ·rw [z]; exact nit b u e
  ·exact nit c _ z
theorem Inv.turnedNew {t':Nat} {ch:List Addr} {T:Addr} {ob:HO} (I:Inv X pins σ H s) (k:∀ b o,b ∉ ch→s.heap.get? b=some o→h'.get? b=some o) (hf:∀ b∈ch,FpOk X pins H b) (hT:s.heap.objs.size≤T)
  (new:ObjOk X.prog X.w (upd H T ob) h' T ob):Inv X pins σ (upd H T ob) { s with heap:=h',toks:=t' }:=by
 have hn:H T=none:=I.hok.fresh hT
 have nit:∀ b u,H b=some u→b ∉ ch:=fun b u e z=>by
  have q:=(hf b z).1
  rw [q] at e; cases e
 refine I.step (g':=s.gens) (d':=s.drawn) (ch:=ch) (fun b hb=>⟨(hf b hb).2.2.2.1,(hf b hb).2.1,(hf b hb).2.2.2.2.1,(hf b hb).2.2.2.2.2⟩) (fun b o _ _ hc e _=>k b o hc e) (fun b o _ _ hc e _=>⟨o.slots,k b o hc e⟩)
  (fun b o _ e n=>?_) (fun b o hc e=>⟨o,k b o hc e⟩) (fun b xs e=>?_) (fun b o u e=>?_) (fun b ps e=>⟨#[],?_⟩) (fun m hm=>?_) (fun b u e=>?_) I.bare
 ·rw [upd_ne (Nat.ne_of_lt (Nat.lt_of_lt_of_le (Heap.lt_size e) hT))]; exact n
 ·rw [upd_ne (ne_of_none e hn)]; exact e
 ·rw [upd_ne (ne_of_none e hn)]; exact e
 ·rw [upd_ne (ne_of_none e hn),e]; simp
 ·obtain ⟨o,es,ep,ho,r⟩:=hm
  exact ⟨o,es,ep,k _ o (fun z=>(hf _ z).2.1 rfl) ho,r⟩
 ·by_cases hb:b=T
  ·subst hb
   rw [upd_same] at e
   cases e
   exact new
  ·rw [upd_ne hb] at e
   refine (I.hok b u e).stay (fun c v hc q=>k c v ?_ q) (fun c q=>by rw [upd_ne (ne_of_none q hn)]; exact q) fun c xs q=>by rw [upd_ne (ne_of_none q hn)]; exact q
   rcases hc with z | z
   ·rw [z]; exact nit b u e
   ·exact nit c _ z
end
section
variable {X:Cx}
end
section
variable {X:Cx} {tg:Expr}
end
section
variable {X:Cx} {tg:Expr}
end
section
variable {prog:Program} {w:World} {A:Around} {E:Value→Shared→Prop} {s:Shared}
end
section
variable {X:Cx} {pins:List (Addr×Obj)} {σ:St} {H:Hp} {s:Shared} {d:Addr} {o:Obj}
end
section
variable {P:Program} {w:World} {K:PySem.W.Frag} {tg:Expr} {d:Addr} {o:Obj} {es:Array DictEntry} {ep:Nat}
end
section
variable {X:Cx} {tg e:Expr} {td:TE} {apos cpos:Pos}
end
theorem boot_zip5:bootBuiltins "zip"=some (.type "zip"):=by decide +kernel
end L2
section
namespace Bits
open PySem PyProof.Rows
end Bits
end
section
namespace TL
open PySem PySem.Builtin PySem.Builtin.Str PySem.StrLaws
end TL
end
namespace L2
open PySem PySem.Spec PyProof.Rows
theorem vals_strs:∀ l:List (Str×Tok),Vals ((l.map (·.1)).map V.str) (strValues l)
 | []=>.nil
 | p::r=>.cons ⟨p.2,rfl⟩ (vals_strs r)
theorem strs_of_vals:∀ {ys:List Str} {us:List Value},Vals (ys.map V.str) us→StrsAre us ys
 | [],_,.nil=>.nil
 | y::ys,_,.cons r t=>by
  obtain ⟨k,rfl⟩:=r
  exact .cons y k (strs_of_vals t)
def rNewStrs (ys:List Str):Hp→VK→Prop:=fun H Q=>∀ p,H p=none→Q (.ref p) (upd H p (.lst (ys.map V.str)))
section
variable {X:Cx} {pins:List (Addr×Obj)} {σ:St} {H:Hp} {s:Shared} {Q:VK}
theorem laid_strs {l:List (Str×Tok)} {ys:List Str} {k:Nat} (I:Inv X pins σ H s) (e:l.map (·.1)=ys) (hz:ys.length≤sizeLine) (h:rNewStrs ys H Q) :
  EP X pins σ Q (.ref s.heap.objs.size) { s with toks:=k,heap:=s.heap.push { cls:=.type "list",data:=.seq (strValues l).toArray } }:=by
 have hp:=I.hok.fresh (Nat.le_refl _)
 refine ⟨.ref s.heap.objs.size,upd H s.heap.objs.size (.lst (ys.map V.str)),I.laid (fun b u q=>Heap.get?_push_of_some _ q) (Nat.le_refl _) ⟨by rw [List.length_map]; exact hz,strValues l,_,?_,Heap.get?_push_size _ rfl⟩,rfl,h _ hp⟩
 rw [←e]
 exact vals_strs l
end
section
variable {X:Cx}
theorem mt_split:MtR X "str.split" (fun x xs H Q=>∃ a b,x=.str a∧xs=[.str b]∧(b.length==0)=false∧a.length + 2≤sizeLine∧rNewStrs (Txt.split a b) H Q):=by
 intro pins s σ H x xs v us Q I rx rs h
 obtain ⟨a,b,rfl,rfl,hb,hz,h⟩:=h
 obtain ⟨t,rfl⟩:=rx
 cases rs with
 | cons r1 rs =>
  cases rs
  obtain ⟨u,rfl⟩:=r1
  have hl:(Txt.split a b).length≤sizeLine:=Nat.le_trans (PyProof.Rows.split_le a b) hz
  have hn:(Builtin.Str.partsBetween a (Builtin.Str.occurrences a b 0 a.length (a.length + 1)) b.length).length≤sizeLine:=by
   have e1:=StrLaws.occ_length_le a b 0 a.length (a.length + 1)
   rw [length_partsBetween]; omega
  cases h1:(decide (a.length < b.length) || decide (Builtin.Str.strKind a < Builtin.Str.strKind b))
  ·cases hf:(Builtin.Str.occurrences a b 0 a.length (a.length + 1)).isEmpty
   ·refine call_meets F.slot_str_split (typeIs_str _ _ _) F.entry_str_split (F.args_str_split_2 _ _) (meets_str_split_sep a b t u h1 hb hf (by omega) hn) ?_
    show EP X pins σ Q (.ref s.heap.objs.size) { s with toks:=_,heap:=s.heap.push { cls:=.type "list",data:=.seq (strsFrom s.toks (Builtin.Str.partsBetween a (Builtin.Str.occurrences a b 0 a.length (a.length + 1)) b.length)).toArray } }
    rw [strsFrom_eq]
    exact laid_strs (ys:=Txt.split a b) I ((numbered_texts _ _).trans ((if_neg (ne_true_of_eq_false h1)).trans (if_neg (ne_true_of_eq_false hf))).symm) hl h
   ·refine call_meets F.slot_str_split (typeIs_str _ _ _) F.entry_str_split (F.args_str_split_2 _ _) (meets_str_split_not_found a b t u h1 hb hf) ?_
    exact laid_strs (l:=[(a,t)]) (ys:=Txt.split a b) (k:=s.toks) I ((if_neg (ne_true_of_eq_false h1)).trans (if_pos hf)).symm hl h
  ·refine call_meets F.slot_str_split (typeIs_str _ _ _) F.entry_str_split (F.args_str_split_2 _ _) (meets_str_split_cannot_occur a b t u h1) ?_
   exact laid_strs (l:=[(a,t)]) (ys:=Txt.split a b) (k:=s.toks) I (if_pos h1).symm hl h
theorem mt_join:MtR X "str.join" (fun x xs H Q=>∃ a p,∃ ys:List Str,x=.str a∧xs=[.ref p]∧(SqL X.K H p (ys.map V.str)∨SqT X.K H p (ys.map V.str)) ∧
  (ys.map (·.length)).sum + ys.length * a.length≤16777216∧Q (.str (Txt.join a ys)) H):=by
 intro pins s σ H x xs v us Q I rx rs h
 obtain ⟨a,p,ys,rfl,rfl,hp,hz,h⟩:=h
 obtain ⟨t,rfl⟩:=rx
 cases rs with
 | cons r1 rs =>
  cases rs
  cases r1
  rcases hp with hp | hp
  ·obtain ⟨its,r,⟨o,n,ho,hc,_,hd⟩,_⟩:=I.list hp
   exact PyProof.Rows.join_list (items:=its.toArray) ⟨o,ho,hc,n,hd⟩ (by rw [List.toList_toArray]; exact strs_of_vals r) hz fun t' k=>⟨.str _,H,I.tok k,⟨t',rfl⟩,h⟩
  ·obtain ⟨its,r,ht,_⟩:=I.tuple hp
   exact PyProof.Rows.join_tuple (items:=its.toArray) ht (by rw [List.toList_toArray]; exact strs_of_vals r) hz fun t' k=>⟨.str _,H,I.tok k,⟨t',rfl⟩,h⟩
theorem mt0 {id:String} {C:Str→Prop} {g:Str→V} (rule:∀ (a:Str) (t:Tok) (s:Shared) (Q:Value→Shared→Prop),C a→(∀ (u:Value) (k:Nat),RelV (g a) u→Q u { s with toks:=k }) →
  wpAny (model X.prog X.w) X.A (call (.builtin id) [.str a t]) Q X.xe s):MtR X id (fun x xs H Q=>∃ a,x=.str a∧xs=[]∧C a∧Q (g a) H):=by
 intro pins s σ H x xs v us Q I rx rs h
 obtain ⟨a,rfl,rfl,hc,h⟩:=h
 obtain ⟨t,rfl⟩:=rx
 cases rs
 exact rule a t s _ hc fun u k r=>⟨g a,H,I.tok k,r,h⟩
theorem mt_isdigit:MtR X "str.isdigit" (fun x xs H Q=>∃ a,x=.str a∧xs=[]∧True∧Q (.bl (Txt.isdigit a)) H) :=
 mt0 (C:=fun _=>True) (g:=fun a=>.bl (Txt.isdigit a)) fun _ _ s _ _ h=>PySem.SC.isdigit (h _ s.toks rfl)
theorem call_int_str:CallR X (.type "int") (fun xs H Q=>∃ a n,xs=[.str a]∧PySem.intText? a=some n∧a.length≤640∧Q (.int n) H):=by
 intro pins s σ H xs us Q I rs h
 obtain ⟨a,n,rfl,hn,hl,h⟩:=h
 cases rs with
 | cons r1 rs =>
  cases rs
  obtain ⟨t,rfl⟩:=r1
  exact PySem.W.KIN.call_text hn hl ⟨.int n,H,I.tok _,⟨_,rfl⟩,h⟩
end
section
variable {X:Cx} {o e:Expr} {to te:TE}
def tM0 (r:V→List V→Hp→VK→Prop) (to:TE):TE:=fun σ H Q=>to σ H fun x H1=>(∃ a,x=.str a)∧r x [] H1 Q
def tM1 (r:V→List V→Hp→VK→Prop) (to te:TE):TE:=fun σ H Q=>to σ H fun x H1=>(∃ a,x=.str a)∧te σ H1 fun y H2=>r x [y] H2 Q
theorem pe_m0 {id:String} {name:Str} {apos pos:Pos} {r:V→List V→Hp→VK→Prop} (slot:Slot "str" name id) (ty:typeOf (.builtin id)=pure (.type "method_descriptor")) (rule:MtR X id r) (ho:PE X o to)
  (hbase:attributeBase o name X.env (eval o X.env)=eval o X.env:=by rfl) (hline:(apos.endLine==pos.line)=true:=by rfl):PE X (.Call (.Attribute o name apos) [] [] pos) (tM0 r to):=by
 intro pins s σ H Q I h
 refine PySem.Call_method0 hbase hline (thn (ho pins s σ H _ I h) fun v s1 ⟨x,H1,I1,r1,q1⟩=>?_)
 obtain ⟨⟨a,rfl⟩,q1⟩:=q1
 obtain ⟨t,rfl⟩:=_root_.id r1
 exact ⟨"str",_,F.plainAttrs_str,slot,ty,typeIs_str _ _ _,(fun _ e=>nomatch e),Calls.callWith_builtin rfl (PySem.evalArgs_none (rule pins s1 σ H1 _ [] _ [] Q I1 r1 .nil q1))⟩
theorem pe_m1 {id:String} {name:Str} {apos pos:Pos} {r:V→List V→Hp→VK→Prop} (slot:Slot "str" name id) (ty:typeOf (.builtin id)=pure (.type "method_descriptor")) (rule:MtR X id r) (ho:PE X o to) (he:PE X e te)
  (hs:starEach [e] X.env=[(false,eval e X.env)]:=by rfl) (hbase:attributeBase o name X.env (eval o X.env)=eval o X.env:=by rfl) (hline:(apos.endLine==pos.line)=true:=by rfl) :
  PE X (.Call (.Attribute o name apos) [e] [] pos) (tM1 r to te):=by
 intro pins s σ H Q I h
 refine PySem.Call_method1 hbase hs hline (thn (ho pins s σ H _ I h) fun v s1 ⟨x,H1,I1,r1,q1⟩=>?_)
 obtain ⟨⟨a,rfl⟩,q1⟩:=q1
 obtain ⟨t,rfl⟩:=_root_.id r1
 refine ⟨"str",_,F.plainAttrs_str,slot,ty,typeIs_str _ _ _,(fun _ e=>nomatch e),Calls.callWith_builtin rfl (Calls.evalArgs_plain (Calls.spliced_cons ?_))⟩
 exact thn (he pins s1 σ H1 _ I1 q1) fun u s2 ⟨y,H2,I2,r2,q2⟩=>Calls.spliced_nil (rule pins s2 σ H2 _ [y] _ [u] Q I2 r1 (.cons r2 .nil) q2)
theorem pe_split {apos pos:Pos} (ho:PE X o to) (he:PE X e te) (hs:starEach [e] X.env=[(false,eval e X.env)]:=by rfl) (hbase:attributeBase o "split" X.env (eval o X.env)=eval o X.env:=by rfl) (hline:(apos.endLine==pos.line)=true:=by rfl) :
  PE X (.Call (.Attribute o "split" apos) [e] [] pos) (tM1 (fun x xs H Q=>∃ a b,x=.str a∧xs=[.str b]∧(b.length==0)=false∧a.length + 2≤sizeLine∧rNewStrs (Txt.split a b) H Q) to te) :=
 pe_m1 F.slot_str_split F.type_str_split mt_split ho he hs hbase hline
theorem pe_join {apos pos:Pos} (ho:PE X o to) (he:PE X e te) (hs:starEach [e] X.env=[(false,eval e X.env)]:=by rfl) (hbase:attributeBase o "join" X.env (eval o X.env)=eval o X.env:=by rfl) (hline:(apos.endLine==pos.line)=true:=by rfl) :
  PE X (.Call (.Attribute o "join" apos) [e] [] pos) (tM1 (fun x xs H Q=>∃ a p,∃ ys:List Str,x=.str a∧xs=[.ref p]∧(SqL X.K H p (ys.map V.str)∨SqT X.K H p (ys.map V.str)) ∧
   (ys.map (·.length)).sum + ys.length * a.length≤16777216∧Q (.str (Txt.join a ys)) H) to te) :=
 pe_m1 F.slot_str_join F.type_str_join mt_join ho he hs hbase hline
end
end L2
namespace L2
open PySem PySem.Spec PyProof.Rows
section
variable {X:Cx}
end
end L2
namespace Att
open PySem PySem.W PySem.Calls PyProof.Rows
section
variable {prog:Program} {w:World} {A:Around} {E:Value→Shared→Prop} {s:Shared} {K:Frag}
end
end Att
namespace L2
open PySem PySem.Spec PyProof.Rows
end L2
namespace L2
open PySem PySem.Spec PyProof.Rows
end L2
namespace L2
open PySem PySem.Spec PyProof.Rows
def inClass (s:Stmt) (j:Nat):Stmt:=match s with
 | .ClassDef _ _ _ body _ _ _ _ _ _ _=>body.getD j (.Pass ⟨0,0,0,0⟩)
 | _=>.Pass ⟨0,0,0,0⟩
def defArgs (s:Stmt):Arguments:=match s with
 | .FunctionDef _ a _ _ _ _ _ _ _ _=>a
 | _=>{ posonlyargs:=[],args:=[],vararg:=none,kwonlyargs:=[],kw_defaults:=[],kwarg:=none,defaults:=[] }
def defBody (s:Stmt):List Stmt:=match s with
 | .FunctionDef _ _ b _ _ _ _ _ _ _=>b
 | _=>[]
def defScope (s:Stmt):Scope:=match s with
 | .FunctionDef _ _ _ _ _ _ sc _ _ _=>sc
 | _=>{ kind:=.function,names:=[],isGenerator:=false,isCoroutine:=false }
abbrev CX0:CXT:=fun _ _ _ _ _ _=>False
abbrev E0:XK:=fun _ _ _=>False
theorem pass0 {X:Cx}:Passes CX0 X E0:=fun _ _ _ _ _ _ _ h=>h.elim
structure Fun (K:PySem.W.Frag) (x qual:Str) (st:Stmt) (f:Addr) (fd:FuncData):Prop where
 ex:∃ (oc:Value) (od:Option Addr) (kV doc pm:Value) (an:Option Addr) (cdv ct:Value) (osl:Array (Option Value)),
  fd=PySem.W.fnOf x qual (defArgs st) (defBody st) (defScope st) .none kV doc pm an cdv ct∧K.lookup f=some ⟨oc,od,.func fd,osl⟩∧PySem.W.codeIn K cdv qual=true
 kp:PySem.W.keepIn K (.ref f)=true
section
variable {P:Program} {w:World} {K:PySem.W.Frag} {mg:Str→Option Value} {base:Heap}
theorem Fun.ok {x qual:Str} {st:Stmt} {f:Addr} {fd:FuncData} {N ps:List Str} {k:Nat} {sp:Sp} (F:Fun K x qual st f fd) (S:FnScope N ps (defScope st)) (len:∀ vs H Q E,sp vs H Q E→vs.length=ps.length)
  (hbody:∀ (cdv:Value) (A:Around) (outer:List Env) (s:Shared) (H:Hp) (vs:List V) (Q:VK) (E:XK),Room k (A.deeper (envOfC qual (defScope st) s.heap.objs.size f cdv))→sp vs H Q E →
   ∃ t,PSs (cxOf CX0 P w K mg base N qual (defScope st) f cdv A outer s H E).nox (defBody st) t∧t { nx:=fun _ H'=>Q .non H',rt:=Q } (start N vs) H):FnOk P w K mg base CX0 (k + 1) f fd ps sp:=by
 obtain ⟨oc,od,kV,doc,pm,an,cdv,ct,osl,rfl,lk,hcd⟩:=F.ex
 refine fn_of lk hcd S len fun A outer s H vs Q E hr hsp=>?_
 obtain ⟨t,h,q⟩:=hbody cdv A outer s H vs Q E hr hsp
 exact ⟨t,h.nox,q⟩
theorem Fun.binds {x qual:Str} {st:Stmt} {f:Addr} {fd:FuncData} {ps:List Str} (F:Fun K x qual st f fd)
  (h:∀ (kV doc pm:Value) (an:Option Addr) (cdv ct:Value) (us:List Value),us.length=ps.length→bindArgs (PySem.W.fnOf x qual (defArgs st) (defBody st) (defScope st) .none kV doc pm an cdv ct) ⟨us,[]⟩=pure (ps.zip us)):Binds K fd ps []:=by
 obtain ⟨oc,od,kV,doc,pm,an,cdv,ct,osl,rfl,lk,hcd⟩:=F.ex
 exact .all (h kV doc pm an cdv ct)
theorem fun_mk {x qual:Str} {st:Stmt} {f:Addr} {oc:Value} {od an:Option Addr} {osl:Array (Option Value)} {kV doc pm cdv ct:Value} (l:K.lookup f=some ⟨oc,od,.func (PySem.W.fnOf x qual (defArgs st) (defBody st) (defScope st) .none kV doc pm an cdv ct),osl⟩)
  (c:PySem.W.codeIn K cdv qual=true) (k:PySem.W.keepIn K (.ref f)=true):Fun K x qual st f (PySem.W.fnOf x qual (defArgs st) (defBody st) (defScope st) .none kV doc pm an cdv ct):=⟨⟨oc,od,kV,doc,pm,an,cdv,ct,osl,rfl,l,c⟩,k⟩
end
theorem hu_of {A:Around} {k:Nat} (hr:Room k A):A.units + 1 < cLine:=Nat.lt_of_le_of_lt (Nat.add_le_add_left (by decide:1≤64) _) hr.units
section
variable {X:Cx}
theorem pv (i:Nat) {x:Str} {pos:Pos} (hN:X.N[i]?=some x:=by rfl) (hv:Vis X.env.scope x:=by first | exact Or.inl rfl | exact Or.inr (Or.inl rfl) | exact Or.inr (Or.inr rfl)) (hd:(x==("__debug__":Str))=false:=by decide)
  (hcd:(x==("__classdict__":Str))=false:=by decide):PE X (.Name x pos) (tVar i):=pe_var hN hv hd hcd
theorem call_lenD:CallR X (.builtin "len") (fun xs H Q=>∃ a kvs,xs=[V.ref a]∧H a=some (.dK kvs)∧Q (.int kvs.length) H):=by
 intro pins s σ H xs us Q I r h
 obtain ⟨a,kvs,rfl,ha,q⟩:=h
 obtain ⟨u,rfl,ru⟩:=vals1 r
 cases ru
 exact d_len I (.inl ha) fun t s' I'=>⟨.int kvs.length,H,I',⟨t,rfl⟩,q⟩
end
theorem iteF {A B:Prop} (h:B):if false=true then A else B:=by
 rw [if_neg Bool.false_ne_true]
 exact h
theorem iteT {A B:Prop} (h:A):if true=true then A else B:=by
 rw [if_pos rfl]
 exact h
def Same (H H':Hp):Prop:=∀ b o,H b=some o→H' b=some o
theorem Same.refl (H:Hp):Same H H:=fun _ _ h=>h
theorem Same.trans {H H1 H2:Hp} (a:Same H H1) (b:Same H1 H2):Same H H2:=fun c o h=>b c o (a c o h)
theorem Same.free {H H':Hp} (e:Same H H') {l:Addr} (h:H' l=Option.none):H l=Option.none:=by
 cases q:H l with
 | none=>rfl
 | some o =>
  rw [e l o q] at h
  cases h
theorem Same.seq {K:PySem.W.Frag} {H H':Hp} {a:Addr} {xs:List V} (e:Same H H') (h:SqL K H a xs):SqL K H' a xs:=by
 rcases h with (h | ⟨o,h⟩) | h
 ·exact .inl (.inl (e _ _ h))
 ·exact .inl (.inr ⟨o,e _ _ h⟩)
 ·exact .inr h
section
variable {κ:Type} [DecidableEq κ]
end
theorem nd_ix {α:Type} {l:List α} (hN:l.Nodup) {i j:Nat} {x:α} (a:l[i]?=some x) (b:l[j]?=some x):i=j:=by
 obtain ⟨h1,e1⟩:=List.getElem?_eq_some_iff.mp a
 obtain ⟨h2,e2⟩:=List.getElem?_eq_some_iff.mp b
 exact (List.getElem_inj hN).mp (e1.trans e2.symm)
theorem Same.made {H H1:Hp} {x dx C:Addr} (nx:H x=Option.none) (nd:H dx=Option.none) (k:∀ b o,(upd (upd H dx (.own x)) x (.ins C dx [])) b=some o→b≠x→H1 b=some o):Same H H1:=fun b o e =>
 k b o (by rw [upd_ne (ne_of_none e nx),upd_ne (ne_of_none e nd)]; exact e) (ne_of_none e nx)
end L2
section
set_option maxHeartbeats 2000000
namespace L2
open PySem PySem.Spec PyProof.Rows
open PySem.W (WData Codec OpenSpec Well WellAll ReadsW ReadsAllW)
mutual
inductive Dw (K:PySem.W.Frag) (H:Hp):V→WData→Prop
 | non:Dw K H .non .none
 | bl (b:Bool):Dw K H (.bl b) (.bool b)
 | int (i:Int):Dw K H (.int i) (.int i)
 | str (x:Str):Dw K H (.str x) (.str x)
 | byt (b:Array UInt8):Dw K H (.byt b) (.bytes b.toList)
 | lst {a:Addr} {xs:List V} {ds:List WData}:SqL K H a xs→DwAll K H xs ds→Dw K H (.ref a) (.list ds)
 | tup {a:Addr} {xs:List V} {ds:List WData}:SqT K H a xs→DwAll K H xs ds→Dw K H (.ref a) (.tuple ds)
inductive DwAll (K:PySem.W.Frag) (H:Hp):List V→List WData→Prop
 | nil:DwAll K H [] []
 | cons {v:V} {vs:List V} {d:WData} {ds:List WData}:Dw K H v d→DwAll K H vs ds→DwAll K H (v::vs) (d::ds)
end
theorem dw_ints {K:PySem.W.Frag} {H:Hp}:∀ ns:List Int,DwAll K H (ns.map V.int) (ns.map WData.int)
 | []=>.nil
 | n::r=>.cons (.int n) (dw_ints r)
theorem ints_dw {K:PySem.W.Frag} {H:Hp}:∀ (ns:List Int) (xs:List V),DwAll K H xs (ns.map WData.int)→xs=ns.map V.int
 | [],xs,h=>by
  cases h
  rfl
 | n::r,xs,h=>by
  cases h with
  | cons h1 h2 =>
   cases h1
   rw [ints_dw r _ h2] <;> rfl
section
variable {P:Program} {w:World} {K:PySem.W.Frag} {H:Hp} {h:Heap} {R:PySem.W.WRecords} {cl:Str→Option Addr}
theorem sqL_at {a:Addr} {xs:List V} (hok:HOk P w H h) (KX:K.In h) (q:SqL K H a xs):∃ (its:List Value) (o:Obj) (n:Nat),Vals xs its∧h.get? a=some o∧o.cls=.type "list"∧o.data=.seq its.toArray n:=by
 rcases q with q | ⟨o,its,n,e,hc,_,hd,_,hv⟩
 ·obtain ⟨_,its,n,hv,e⟩:=(show ObjOk P w H h a (.lst xs) from q.ok hok)
  exact ⟨its,_,n,hv,e,rfl,rfl⟩
 ·exact ⟨its.toList,o,n,hv,KX _ _ e,hc,by simp [hd]⟩
theorem sqT_at {a:Addr} {xs:List V} (hok:HOk P w H h) (KX:K.In h) (q:SqT K H a xs):∃ (its:List Value) (o:Obj) (n:Nat),Vals xs its∧h.get? a=some o∧o.cls=.type "tuple"∧o.data=.seq its.toArray n:=by
 rcases q with q | ⟨o,its,n,e,hc,hd,_,hv⟩
 ·obtain ⟨_,its,hv,o,e,hc,n,hd⟩:=(show ObjOk P w H h a (.tup xs) from q.ok hok)
  exact ⟨its,o,n,hv,e,hc,hd⟩
 ·exact ⟨its.toList,o,n,hv,KX _ _ e,hc,by simp [hd]⟩
mutual
theorem Dw.reads (hok:HOk P w H h) (KX:K.In h):∀ (d:WData) (v:V) (u:Value),Dw K H v d→RelV v u→∃ as,ReadsW R cl h u d as
 | .none,_,_,x,r=>by
  cases x
  cases r
  exact ⟨_,ReadsW.none⟩
 | .bool b,_,_,x,r=>by
  cases x
  cases r
  exact ⟨_,ReadsW.bool b⟩
 | .int i,_,_,x,r=>by
  cases x
  obtain ⟨t,rfl⟩:=r
  exact ⟨_,ReadsW.int i t⟩
 | .str s,_,_,x,r=>by
  cases x
  obtain ⟨t,rfl⟩:=r
  exact ⟨_,ReadsW.str s t⟩
 | .bytes b,_,_,x,r=>by
  cases x
  obtain ⟨t,rfl⟩:=r
  exact ⟨_,ReadsW.bytes _ t⟩
 | .list ds,_,_,x,r=>by
  cases x with
  | lst hs ha =>
   cases r
   obtain ⟨its,o,n,rv,ho,hc,hd⟩:=sqL_at hok KX hs
   obtain ⟨as,hr⟩:=Dw.readsAll hok KX ds _ its ha rv
   exact ⟨_,ReadsW.list ho hc hd hr⟩
 | .tuple ds,_,_,x,r=>by
  cases x with
  | tup hs ha =>
   cases r
   obtain ⟨its,o,n,rv,ho,hc,hd⟩:=sqT_at hok KX hs
   obtain ⟨as,hr⟩:=Dw.readsAll hok KX ds _ its ha rv
   exact ⟨_,ReadsW.tuple ho hc hd hr⟩
 | .float _,_,_,x,_=>by cases x
 | .dict _,_,_,x,_=>by cases x
 | .bytearray _,_,_,x,_=>by cases x
 | .set _,_,_,x,_=>by cases x
 | .frozenset _,_,_,x,_=>by cases x
 | .obj _ _,_,_,x,_=>by cases x
theorem Dw.readsAll (hok:HOk P w H h) (KX:K.In h):∀ (ds:List WData) (vs:List V) (us:List Value),DwAll K H vs ds→Vals vs us→∃ as,ReadsAllW R cl h us ds as
 | [],_,_,x,r=>by
  cases x
  cases r
  exact ⟨_,ReadsAllW.nil⟩
 | d::ds,_,_,x,r=>by
  cases x with
  | cons h1 h2 =>
   cases r with
   | cons r1 r2 =>
    obtain ⟨as,q1⟩:=Dw.reads hok KX d _ _ h1 r1
    obtain ⟨bs,q2⟩:=Dw.readsAll hok KX ds _ _ h2 r2
    exact ⟨_,ReadsAllW.cons q1 q2⟩
end
end
mutual
def plW:WData→Bool
 | .none=>true
 | .bool _=>true
 | .int _=>true
 | .str _=>true
 | .bytes _=>true
 | .list xs=>plWs xs
 | .tuple xs=>plWs xs
 | _=>false
def plWs:List WData→Bool
 | []=>true
 | x::r=>plW x && plWs r
end
theorem plWs_map {α:Type} {f:α→WData} (h:∀ a,plW (f a)=true):∀ l:List α,plWs (l.map f)=true
 | []=>rfl
 | x::r=>by
  show (plW (f x) && plWs (r.map f))=true
  rw [h x,plWs_map h r] <;> rfl
theorem pl_enc:∀ (c:Codec) (a:c.denote),plW (c.enc a)=true
 | .unit,_=>rfl
 | .bool,_=>rfl
 | .int _ _,_=>rfl
 | .nat _ _,_=>rfl
 | .u8,_=>rfl
 | .bytes _ _,_=>rfl
 | .text _ _ _ _,_=>rfl
 | .list _ _ c,a=>plWs_map (fun x=>pl_enc c x) a
 | .pair c d,a=>by
  show (plW (c.enc a.1) && (plW (d.enc a.2) && true))=true
  rw [pl_enc c a.1,pl_enc d a.2] <;> rfl
 | .triple c d e,a=>by
  show (plW (c.enc a.1) && (plW (d.enc a.2.1) && (plW (e.enc a.2.2) && true)))=true
  rw [pl_enc c a.1,pl_enc d a.2.1,pl_enc e a.2.2] <;> rfl
 | .option c,none=>rfl
 | .option c,some x=>pl_enc c x
theorem pl_encAll:∀ (cs:List Codec) (a:Codec.denoteAll cs),plWs (Codec.encAll cs a)=true
 | [],_=>rfl
 | c::cs,a=>by
  show (plW (c.enc a.1) && plWs (Codec.encAll cs a.2))=true
  rw [pl_enc c a.1,pl_encAll cs a.2] <;> rfl
theorem weight_mem:∀ {xs:List WData} {d:WData},d∈xs→d.weight≤WData.weightAll xs
 | [],d,h=>absurd h (by simp)
 | x::r,d,h=>by
  show d.weight≤x.weight + 1 + WData.weightAll r
  rcases List.mem_cons.mp h with e | m
  ·rw [e]
   omega
  ·have z:=weight_mem m
   omega
def toV:Value→V
 | .none=>.non
 | .bool b=>.bl b
 | .int i _=>.int i
 | .str x _=>.str x
 | .bytes b _=>.byt b
 | .ref a=>.ref a
 | _=>.non
def OkU (A:List Addr):Value→Prop
 | .none=>True
 | .bool _=>True
 | .int _ _=>True
 | .str _ _=>True
 | .bytes _ _=>True
 | .ref a=>a∈A
 | _=>False
theorem OkU.mono {A B:List Addr} (h:∀ a∈A,a∈B):∀ {u:Value},OkU A u→OkU B u:=fun {u} x=>by
 cases u with
 | ref a=>exact h a x
 | none=>trivial
 | bool b=>trivial
 | int i t=>trivial
 | str s t=>trivial
 | bytes b t=>trivial
 | _=>exact False.elim x
theorem relV_toV {A:List Addr} {u:Value} (x:OkU A u):RelV (toV u) u:=by
 cases u with
 | ref a=>rfl
 | none=>rfl
 | bool b=>rfl
 | int i t=>exact ⟨t,rfl⟩
 | str s t=>exact ⟨t,rfl⟩
 | bytes b t=>exact ⟨t,rfl⟩
 | _=>exact False.elim x
theorem vals_toV {A:List Addr}:∀ {vs:List Value},(∀ u∈vs,OkU A u)→Vals (vs.map toV) vs
 | [],_=>.nil
 | u::r,h=>.cons (relV_toV (h u (List.mem_cons_self ..))) (vals_toV fun x hx=>h x (List.mem_cons_of_mem _ hx))
def ArgOb (h:Heap) (A:List Addr) (a:Addr):Prop:=∃ vs:List Value,vs.length≤sizeLine∧(∀ u∈vs,OkU A u) ∧
 (h.get? a=some { cls:=.type "list",data:=.seq vs.toArray }∨h.get? a=some { cls:=.type "tuple",data:=.seq vs.toArray })
theorem ArgOb.mono {h:Heap} {A B:List Addr} {a:Addr} (k:∀ a∈A,a∈B) (x:ArgOb h A a):ArgOb h B a:=by
 obtain ⟨vs,h1,h2,h3⟩:=x
 exact ⟨vs,h1,fun u hu=>(h2 u hu).mono k,h3⟩
theorem wellAll_len {P:Params} {h:Heap}:∀ {vs:List Value} {ds:List WData},WellAll P h vs ds→vs.length=ds.length
 | _,_,.nil=>rfl
 | _,_,.cons _ b=>by
  show _ + 1=_ + 1
  rw [wellAll_len b]
theorem well_list {P:Params} {h:Heap} {v:Value} {ds:List WData} (x:Well P h v (.list ds)):∃ (a:Addr) (vs:List Value),v=.ref a∧h.get? a=some { cls:=.type "list",data:=.seq vs.toArray }∧WellAll P h vs ds:=by
 cases x with
 | list ho hall=>exact ⟨_,_,rfl,ho,hall⟩
theorem well_tuple {P:Params} {h:Heap} {v:Value} {ds:List WData} (x:Well P h v (.tuple ds)):∃ (a:Addr) (vs:List Value),v=.ref a∧h.get? a=some { cls:=.type "tuple",data:=.seq vs.toArray }∧WellAll P h vs ds:=by
 cases x with
 | tuple ho hall=>exact ⟨_,_,rfl,ho,hall⟩
theorem well_cons {P:Params} {h:Heap} {us:List Value} {d:WData} {ds:List WData} (x:WellAll P h us (d::ds)):∃ (v:Value) (vs:List Value),us=v::vs∧Well P h v d∧WellAll P h vs ds:=by
 cases x with
 | cons a b=>exact ⟨_,_,rfl,a,b⟩
theorem line_of {n:Nat} (h:n≤1048576):n≤sizeLine:=Nat.le_trans h (by decide)
section
variable {P:Params} {h:Heap}
mutual
theorem area_one:∀ (d:WData) (v:Value),Well P h v d→plW d=true→d.weight≤1048576→∃ A:List Addr,OkU A v∧∀ a∈A,ArgOb h A a
 | .none,_,x,_,_=>by
  cases x
  exact ⟨[],trivial,fun a m=>absurd m (by simp)⟩
 | .bool b,_,x,_,_=>by
  cases x
  exact ⟨[],trivial,fun a m=>absurd m (by simp)⟩
 | .int i,_,x,_,_=>by
  cases x
  exact ⟨[],trivial,fun a m=>absurd m (by simp)⟩
 | .str s,_,x,_,_=>by
  cases x
  exact ⟨[],trivial,fun a m=>absurd m (by simp)⟩
 | .bytes b,_,x,_,_=>by
  cases x
  exact ⟨[],trivial,fun a m=>absurd m (by simp)⟩
 | .list ds,_,x,p,z=>by
  obtain ⟨a,vs,rfl,ho,hall⟩:=well_list x
  have z2:WData.weightAll ds≤1048576:=z
  obtain ⟨A,h1,h2⟩:=area_all ds _ hall p fun d hd=>Nat.le_trans (weight_mem hd) z2
  have k:∀ b∈A,b∈a::A:=fun b hb=>List.mem_cons_of_mem _ hb
  refine ⟨a::A,List.mem_cons_self ..,fun b hb=>?_⟩
  rcases List.mem_cons.mp hb with e | m
  ·rw [e]
   exact ⟨vs,line_of (by rw [wellAll_len hall]; exact Nat.le_trans (PySem.W.length_le_weightAllW ds) z2),fun u hu=>(h1 u hu).mono k,.inl ho⟩
  ·exact (h2 b m).mono k
 | .tuple ds,_,x,p,z=>by
  obtain ⟨a,vs,rfl,ho,hall⟩:=well_tuple x
  have z2:WData.weightAll ds≤1048576:=z
  obtain ⟨A,h1,h2⟩:=area_all ds _ hall p fun d hd=>Nat.le_trans (weight_mem hd) z2
  have k:∀ b∈A,b∈a::A:=fun b hb=>List.mem_cons_of_mem _ hb
  refine ⟨a::A,List.mem_cons_self ..,fun b hb=>?_⟩
  rcases List.mem_cons.mp hb with e | m
  ·rw [e]
   exact ⟨vs,line_of (by rw [wellAll_len hall]; exact Nat.le_trans (PySem.W.length_le_weightAllW ds) z2),fun u hu=>(h1 u hu).mono k,.inr ho⟩
  ·exact (h2 b m).mono k
 | .float _,_,_,p,_=>Bool.noConfusion (show false=true from p)
 | .dict _,_,_,p,_=>Bool.noConfusion (show false=true from p)
 | .bytearray _,_,_,p,_=>Bool.noConfusion (show false=true from p)
 | .set _,_,_,p,_=>Bool.noConfusion (show false=true from p)
 | .frozenset _,_,_,p,_=>Bool.noConfusion (show false=true from p)
 | .obj _ _,_,_,p,_=>Bool.noConfusion (show false=true from p)
theorem area_all:∀ (ds:List WData) (vs:List Value),WellAll P h vs ds→plWs ds=true→(∀ d∈ds,d.weight≤1048576)→∃ A:List Addr,(∀ u∈vs,OkU A u)∧∀ a∈A,ArgOb h A a
 | [],_,x,_,_=>by
  cases x
  exact ⟨[],fun u m=>absurd m (by simp),fun a m=>absurd m (by simp)⟩
 | d::ds,_,x,p,z=>by
  obtain ⟨v,vs,rfl,x1,x2⟩:=well_cons x
  have q:plW d=true∧plWs ds=true:=Bool.and_eq_true_iff.mp p
  obtain ⟨A,a1,a2⟩:=area_one d v x1 q.1 (z d (List.mem_cons_self ..))
  obtain ⟨B,b1,b2⟩:=area_all ds vs x2 q.2 fun e he=>z e (List.mem_cons_of_mem _ he)
  have kA:∀ b∈A,b∈A++B:=fun b hb=>List.mem_append.mpr (.inl hb)
  have kB:∀ b∈B,b∈A++B:=fun b hb=>List.mem_append.mpr (.inr hb)
  refine ⟨A++B,fun u hu=>?_,fun b hb=>?_⟩
  ·rcases List.mem_cons.mp hu with e | m
   ·rw [e]
    exact a1.mono kA
   ·exact (b1 u m).mono kB
  ·rcases List.mem_append.mp hb with m | m
   ·exact (a2 b m).mono kA
   ·exact (b2 b m).mono kB
end
end
def hoOf (o:Obj):Option HO:=match o.data with
 | .seq vs _=>if (o.cls==Value.type "list")=true then some (.frz o (.lst (vs.toList.map toV))) else some (.frz o (.tup (vs.toList.map toV)))
 | _=>none
def argH (K:PySem.W.Frag) (h:Heap) (A:List Addr):Hp:=fun b=>if b∈A then (if (K.lookup b).isNone=true then (h.get? b).bind hoOf else none) else none
def OnlyF (H:Hp):Prop:=∀ b,H b=none∨∃ o u,H b=some (.frz o u)
theorem hoOf_lst (vs:List Value):hoOf { cls:=.type "list",data:=.seq vs.toArray }=some (.frz { cls:=.type "list",data:=.seq vs.toArray } (.lst (vs.map toV))):=by
 show (if (Value.type "list"==Value.type "list")=true then some (HO.frz { cls:=.type "list",data:=.seq vs.toArray } (.lst (vs.toArray.toList.map toV))) else some (HO.frz { cls:=.type "list",data:=.seq vs.toArray } (.tup (vs.toArray.toList.map toV))))=_
 rw [if_pos (beq_self_eq_true _)]
theorem hoOf_tup (vs:List Value):hoOf { cls:=.type "tuple",data:=.seq vs.toArray }=some (.frz { cls:=.type "tuple",data:=.seq vs.toArray } (.tup (vs.map toV))):=by
 show (if (Value.type "tuple"==Value.type "list")=true then some (HO.frz { cls:=.type "tuple",data:=.seq vs.toArray } (.lst (vs.toArray.toList.map toV))) else some (HO.frz { cls:=.type "tuple",data:=.seq vs.toArray } (.tup (vs.toArray.toList.map toV))))=_
 rw [if_neg (by decide)]
section
variable {P:Program} {w:World} {K:PySem.W.Frag} {h:Heap} {A:List Addr}
theorem argH_at {b:Addr} {o:Obj} (hb:b∈A) (hk:K.lookup b=none) (e:h.get? b=some o):argH K h A b=hoOf o:=by
 unfold argH
 rw [if_pos hb,hk,if_pos (show (none:Option Obj).isNone=true from rfl),e] <;> rfl
theorem of_argH {b:Addr} {u:HO} (q:argH K h A b=some u):b∈A∧K.lookup b=none:=by
 unfold argH at q
 by_cases hb:b∈A
 ·rw [if_pos hb] at q
  cases hk:K.lookup b with
  | none=>exact ⟨hb,rfl⟩
  | some o =>
   rw [hk,if_neg (by simp)] at q
   cases q
 ·rw [if_neg hb] at q
  cases q
theorem argH_is (ar:∀ a∈A,ArgOb h A a) {b:Addr} {u:HO} (q:argH K h A b=some u):K.lookup b=none∧∃ vs:List Value,vs.length≤sizeLine∧(∀ u∈vs,OkU A u) ∧
  (
   (h.get? b=some { cls:=.type "list",data:=.seq vs.toArray }∧u=.frz { cls:=.type "list",data:=.seq vs.toArray } (.lst (vs.map toV))) ∨
   (h.get? b=some { cls:=.type "tuple",data:=.seq vs.toArray }∧u=.frz { cls:=.type "tuple",data:=.seq vs.toArray } (.tup (vs.map toV)))):=by
 obtain ⟨hb,hk⟩:=of_argH q
 obtain ⟨vs,h1,h2,h3⟩:=ar b hb
 refine ⟨hk,vs,h1,h2,?_⟩
 rcases h3 with e | e
 ·rw [argH_at hb hk e,hoOf_lst] at q
  exact .inl ⟨e,(Option.some.inj q).symm⟩
 ·rw [argH_at hb hk e,hoOf_tup] at q
  exact .inr ⟨e,(Option.some.inj q).symm⟩
theorem argH_only (ar:∀ a∈A,ArgOb h A a):OnlyF (argH K h A):=fun b=>by
 cases q:argH K h A b with
 | none=>exact .inl rfl
 | some u =>
  obtain ⟨_,vs,_,_,⟨_,e⟩ | ⟨_,e⟩⟩:=argH_is ar q
  ·exact .inr ⟨_,_,by rw [e]⟩
  ·exact .inr ⟨_,_,by rw [e]⟩
theorem argH_ok (ar:∀ a∈A,ArgOb h A a):HOk P w (argH K h A) h:=fun b u q=>by
 obtain ⟨_,vs,h1,h2,⟨e,rfl⟩ | ⟨e,rfl⟩⟩:=argH_is ar q
 ·exact ⟨e,by rw [List.length_map]; exact h1,vs,_,vals_toV h2,e⟩
 ·exact ⟨e,by rw [List.length_map]; exact h1,vs,vals_toV h2,_,e,rfl,_,rfl⟩
theorem seq_inj {c c':Value} {vs us:List Value} (e:(some { cls:=c,data:=.seq vs.toArray }:Option Obj)=some { cls:=c',data:=.seq us.toArray }):c=c'∧vs=us:=by
 have e1:=Option.some.inj e
 have e2:c=c':=congrArg Obj.cls e1
 have e3:Data.seq vs.toArray=Data.seq us.toArray:=congrArg Obj.data e1
 injection e3 with e4
 refine ⟨e2,?_⟩
 have e5:=congrArg Array.toList e4
 simpa using e5
theorem argL (KX:K.In h) (ar:∀ a∈A,ArgOb h A a) {a:Addr} {vs:List Value} (ha:a∈A) (e:h.get? a=some { cls:=.type "list",data:=.seq vs.toArray }):(∀ u∈vs,OkU A u)∧SqL K (argH K h A) a (vs.map toV):=by
 obtain ⟨us,h1,h2,h3⟩:=ar a ha
 have hu:us=vs:=by
  rcases h3 with q | q
  ·rw [e] at q
   exact (seq_inj q).2.symm
  ·rw [e] at q
   exact absurd (Value.type.inj (seq_inj q).1) (by decide)
 subst hu
 refine ⟨h2,?_⟩
 cases hk:K.lookup a with
 | none=>exact .inl (.inr ⟨_,by rw [argH_at ha hk e,hoOf_lst]⟩)
 | some o =>
  have e2:=KX a o hk
  rw [e] at e2
  obtain rfl:=Option.some.inj e2
  exact .inr ⟨_,us.toArray,_,hk,rfl,rfl,rfl,by rw [List.size_toArray]; exact h1,by simpa using vals_toV h2⟩
theorem argT (KX:K.In h) (ar:∀ a∈A,ArgOb h A a) {a:Addr} {vs:List Value} (ha:a∈A) (e:h.get? a=some { cls:=.type "tuple",data:=.seq vs.toArray }):(∀ u∈vs,OkU A u)∧SqT K (argH K h A) a (vs.map toV):=by
 obtain ⟨us,h1,h2,h3⟩:=ar a ha
 have hu:us=vs:=by
  rcases h3 with q | q
  ·rw [e] at q
   exact absurd (Value.type.inj (seq_inj q).1) (by decide)
  ·rw [e] at q
   exact (seq_inj q).2.symm
 subst hu
 refine ⟨h2,?_⟩
 cases hk:K.lookup a with
 | none=>exact .inl (.inr ⟨_,by rw [argH_at ha hk e,hoOf_tup]⟩)
 | some o =>
  have e2:=KX a o hk
  rw [e] at e2
  obtain rfl:=Option.some.inj e2
  exact .inr ⟨_,us.toArray,_,hk,rfl,rfl,by rw [List.size_toArray]; exact h1,by simpa using vals_toV h2⟩
mutual
theorem dw_one {Pm:Params} (KX:K.In h) (ar:∀ a∈A,ArgOb h A a):∀ (d:WData) (v:Value),Well Pm h v d→plW d=true→OkU A v→Dw K (argH K h A) (toV v) d
 | .none,_,x,_,_=>by
  cases x
  exact .non
 | .bool b,_,x,_,_=>by
  cases x
  exact .bl b
 | .int i,_,x,_,_=>by
  cases x
  exact .int i
 | .str s,_,x,_,_=>by
  cases x
  exact .str s
 | .bytes b,_,x,_,_=>by
  cases x
  have z:=Dw.byt (K:=K) (H:=argH K h A) b.toArray
  exact z
 | .list ds,_,x,p,hu=>by
  obtain ⟨a,vs,rfl,ho,hall⟩:=well_list x
  obtain ⟨h2,hs⟩:=argL KX ar hu ho
  exact .lst hs (dw_all KX ar ds _ hall p h2)
 | .tuple ds,_,x,p,hu=>by
  obtain ⟨a,vs,rfl,ho,hall⟩:=well_tuple x
  obtain ⟨h2,hs⟩:=argT KX ar hu ho
  exact .tup hs (dw_all KX ar ds _ hall p h2)
 | .float _,_,_,p,_=>Bool.noConfusion (show false=true from p)
 | .dict _,_,_,p,_=>Bool.noConfusion (show false=true from p)
 | .bytearray _,_,_,p,_=>Bool.noConfusion (show false=true from p)
 | .set _,_,_,p,_=>Bool.noConfusion (show false=true from p)
 | .frozenset _,_,_,p,_=>Bool.noConfusion (show false=true from p)
 | .obj _ _,_,_,p,_=>Bool.noConfusion (show false=true from p)
theorem dw_all {Pm:Params} (KX:K.In h) (ar:∀ a∈A,ArgOb h A a):∀ (ds:List WData) (vs:List Value),WellAll Pm h vs ds→plWs ds=true→(∀ u∈vs,OkU A u)→DwAll K (argH K h A) (vs.map toV) ds
 | [],_,x,_,_=>by
  cases x
  exact .nil
 | d::ds,_,x,p,hu=>by
  obtain ⟨v,vs,rfl,x1,x2⟩:=well_cons x
  have q:plW d=true∧plWs ds=true:=Bool.and_eq_true_iff.mp p
  exact .cons (dw_one KX ar d v x1 q.1 (hu _ (List.mem_cons_self ..))) (dw_all KX ar ds vs x2 q.2 fun u m=>hu u (List.mem_cons_of_mem _ m))
end
end
theorem layable_weight {ds:List WData} (h:WData.layableAll ds=true):∀ d∈ds,d.weight≤1048576:=fun d hd =>
 (PySem.W.layableW_iff.mp (List.all_eq_true.mp h d hd)).2.2
theorem encAll_len:∀ (cs:List Codec) (a:Codec.denoteAll cs),(Codec.encAll cs a).length=cs.length
 | [],_=>rfl
 | c::cs,a=>by
  show (Codec.encAll cs a.2).length + 1=cs.length + 1
  rw [encAll_len cs a.2]
end L2
end
end
section
namespace Rv
open PySem PySem.Spec PyProof.Rows L2
structure SC where
 M:Model
 gm:PySem.Ctx
 s1:Shared
 s2:Shared
 k1:SortKind
 k2:SortKind
 ph:Value→Value
 E1:Value→Pos→Shared→Prop
def SC.f (c:SC) (p:Keyed):Keyed:=(c.ph p.1,p.2)
def SC.F (c:SC) (st:SortSt):SortSt:=SortSt.mk' c.k2 ((arrOf st).map c.f) (pendingOf st) (gallopOf st) (failedOf st)
class Tr (α:Type) where
 tr:SC→α→α
instance:Tr Nat:=⟨fun _ a=>a⟩
instance:Tr Bool:=⟨fun _ a=>a⟩
instance:Tr PUnit:=⟨fun _ a=>a⟩
instance (priority:=high) trKeyed:Tr (Value×Value):=⟨fun c p=>c.f p⟩
instance trOpt {α:Type} [Tr α]:Tr (Option α):=⟨fun c o=>o.map (Tr.tr c)⟩
instance trProd {α β:Type} [Tr α] [Tr β]:Tr (α×β):=⟨fun c p=>(Tr.tr c p.1,Tr.tr c p.2)⟩
instance trArr:Tr (Array (Value×Value)):=⟨fun c a=>a.map c.f⟩
instance trStep {α:Type} [Tr α]:Tr (ForInStep α):=⟨fun c r=>match r with | .done b=>.done (Tr.tr c b) | .yield b=>.yield (Tr.tr c b)⟩
def Sim (c:SC) {α:Type} [Tr α] (m1 m2:StateT SortSt Sem α):Prop:=∀ (R:α→SortSt→Pos→Shared→Prop) (st:SortSt) (p1 p2:Pos),kindOf st=c.k1 →
 Sem.wp c.M c.gm (m2.run (c.F st)) (fun r p s=>R r.1 r.2 p s) (fun _ _ _=>False) p2 c.s2 →
 Sem.wp c.M c.gm (m1.run st) (fun r p s=>s=c.s1∧kindOf r.2=c.k1∧∃ p',R (Tr.tr c r.1) (c.F r.2) p' c.s2) c.E1 p1 c.s1
section
variable {c:SC} {α β:Type} [Tr α] [Tr β]
theorem sim_pure {a b:α} (h:Tr.tr c a=b):Sim c (pure a:StateT SortSt Sem α) (pure b):=by
 intro R st p1 p2 hk w
 rw [StateT.run_pure] at w ⊢
 rw [Sem.wp_pure'] at w ⊢
 exact ⟨rfl,hk,p2,by rw [h]; exact w⟩
theorem sim_bind {m1 m2:StateT SortSt Sem α} {f1 f2:α→StateT SortSt Sem β} (h:Sim c m1 m2) (hf:∀ a,Sim c (f1 a) (f2 (Tr.tr c a))):Sim c (m1 >>= f1) (m2 >>= f2):=by
 intro R st p1 p2 hk w
 rw [StateT.run_bind] at w ⊢
 rw [Sem.wp_bind'] at w ⊢
 have w1:=h (fun b st' p s=>Sem.wp c.M c.gm ((f2 b).run st') (fun r p s=>R r.1 r.2 p s) (fun _ _ _=>False) p s) st p1 p2 hk w
 refine Sem.wp_mono c.M c.gm _ (fun r p s hr=>?_) (fun _ _ _ e=>e) p1 c.s1 w1
 obtain ⟨rfl,hk',p',w2⟩:=hr
 exact hf r.1 R r.2 p p' hk' w2
theorem sim_modify {g1 g2:SortSt→SortSt} (h:∀ st,kindOf st=c.k1→kindOf (g1 st)=c.k1∧c.F (g1 st)=g2 (c.F st)):Sim c (modify g1:StateT SortSt Sem PUnit) (modify g2):=by
 intro R st p1 p2 hk w
 rw [StateT.run_modify] at w ⊢
 rw [Sem.wp_pure'] at w ⊢
 obtain ⟨h1,h2⟩:=h st hk
 exact ⟨rfl,h1,p2,by rw [h2]; exact w⟩
theorem sim_set {a b:SortSt} (hk:kindOf a=c.k1) (h:c.F a=b):Sim c (set a:StateT SortSt Sem PUnit) (set b):=by
 intro R st p1 p2 _ w
 rw [StateT.run_set] at w ⊢
 rw [Sem.wp_pure'] at w ⊢
 exact ⟨rfl,hk,p2,by rw [h]; exact w⟩
theorem sim_list {f1 f2:Nat→α→StateT SortSt Sem (ForInStep α)} (h:∀ x a,Sim c (f1 x a) (f2 x (Tr.tr c a))):∀ (l:List Nat) (a:α),Sim c (forIn l a f1) (forIn l (Tr.tr c a) f2)
 | [],a=>by
  rw [List.forIn_nil,List.forIn_nil]
  exact sim_pure rfl
 | x::l,a=>by
  rw [List.forIn_cons,List.forIn_cons]
  refine sim_bind (h x a) fun r=>?_
  cases r with
  | done b=>exact sim_pure rfl
  | yield b=>exact sim_list h l b
theorem sim_range {f1 f2:Nat→α→StateT SortSt Sem (ForInStep α)} {i j:Nat} {a b:α} (hb:Tr.tr c a=b) (h:∀ x a,Sim c (f1 x a) (f2 x (Tr.tr c a))):Sim c (forIn [i:j] a f1) (forIn [i:j] b f2):=by
 rw [Std.Legacy.Range.forIn_eq_forIn_range',Std.Legacy.Range.forIn_eq_forIn_range',←hb]
 exact sim_list h _ a
theorem sim_unsup {m1:StateT SortSt Sem α} {w:String}:Sim c m1 (unsupported w:StateT SortSt Sem α):=by
 intro R st p1 p2 hk h
 exact absurd h (by intro h; exact h)
end
end Rv
end
section
namespace Rv
open PySem PySem.Spec PyProof.Rows L2
def SC.Lt (c:SC):Prop:=∀ (x y:Value) (Q:Bool→Pos→Shared→Prop) (Ee:Value→Pos→Shared→Prop) (p2:Pos),Sem.wp c.M c.gm (keyLt' c.k2 (c.ph x) (c.ph y)) Q Ee p2 c.s2 →
 ∃ b p',Q b p' c.s2∧∀ (Q1:Bool→Pos→Shared→Prop) (E1:Value→Pos→Shared→Prop) (p1:Pos),(∀ p,Q1 b p c.s1)→Sem.wp c.M c.gm (keyLt' c.k1 x y) Q1 E1 p1 c.s1
section
variable {c:SC} {α β γ:Type} [Tr α] [Tr β] [Tr γ]
theorem sim_rule {t:String}:Sim c (liftM (rule t):StateT SortSt Sem Unit) (liftM (rule t)):=by
 intro R st p1 p2 hk w
 have w1:Sem.wp c.M c.gm ((StateT.lift (rule t):StateT SortSt Sem Unit).run (c.F st)) (fun r p s=>R r.1 r.2 p s) (fun _ _ _=>False) p2 c.s2:=w
 show Sem.wp c.M c.gm ((StateT.lift (rule t):StateT SortSt Sem Unit).run st) _ _ p1 c.s1
 rw [StateT.run_lift,Sem.wp_bind'] at w1 ⊢
 unfold rule at w1 ⊢
 rw [Sem.wp_rule,Sem.wp_pure,Sem.wp_pure'] at w1 ⊢
 exact ⟨rfl,hk,p2,w1⟩
theorem sim_get_bind {f1 f2:SortSt→StateT SortSt Sem α} (h:∀ s,kindOf s=c.k1→Sim c (f1 s) (f2 (c.F s))):Sim c (get >>= f1) (get >>= f2):=by
 intro R st p1 p2 hk w
 rw [StateT.run_bind,StateT.run_get,pure_bind] at w ⊢
 exact h st hk R st p1 p2 hk w
theorem sim_bind_opt {m1 m2:StateT SortSt Sem (Option α)} {f1 f2:Option α→StateT SortSt Sem β} (h:Sim c m1 m2) (hn:Sim c (f1 none) (f2 none)) (hs:∀ a,Sim c (f1 (some a)) (f2 (some (Tr.tr c a)))):Sim c (m1 >>= f1) (m2 >>= f2) :=
 sim_bind h fun a=>by
  cases a with
  | none=>exact hn
  | some a=>exact hs a
theorem sim_if {p q:Prop} [Decidable p] [Decidable q] {m1 m2 n1 n2:StateT SortSt Sem α} (e:q↔p) (h1:Sim c m1 m2) (h2:Sim c n1 n2):Sim c (if p then m1 else n1) (if q then m2 else n2):=by
 by_cases h:p
 ·rw [if_pos h,if_pos (e.mpr h)]; exact h1
 ·rw [if_neg h,if_neg (fun h'=>h (e.mp h'))]; exact h2
theorem sim_elem {a b:Array Keyed} {i:Nat} (h:b=a.map c.f):Sim c (elem' a i) (elem' b i):=by
 subst h
 rw [elem'_eq,elem'_eq,Array.getElem?_map]
 cases a[i]? with
 | none=>exact sim_unsup
 | some p=>exact sim_pure rfl
theorem sim_lt (hc:c.Lt) (x y:Keyed):Sim c (lt' x y) (lt' (c.f x) (c.f y)):=by
 rw [lt'_eq,lt'_eq]
 refine sim_get_bind fun s0 hk0=>?_
 intro R st p1 p2 hk w
 rw [StateT.run_bind,Sem.wp_bind'] at w ⊢
 have w1:Sem.wp c.M c.gm ((StateT.lift (keyLt' c.k2 (c.ph x.1) (c.ph y.1)).attempt:StateT SortSt Sem _).run (c.F st)) _ (fun _ _ _=>False) p2 c.s2:=w
 show Sem.wp c.M c.gm ((StateT.lift (keyLt' (kindOf s0) x.1 y.1).attempt:StateT SortSt Sem _).run st) _ _ p1 c.s1
 rw [hk0]
 rw [StateT.run_lift,Sem.wp_bind',Sem.wp_attempt] at w1 ⊢
 obtain ⟨b,p',hq,h1⟩:=hc _ _ _ _ _ w1
 refine h1 _ _ _ fun p=>?_
 rw [Sem.wp_pure'] at hq ⊢
 dsimp only at hq ⊢
 rw [StateT.run_pure,Sem.wp_pure'] at hq ⊢
 exact ⟨rfl,hk,p',hq⟩
end
end Rv
end
section
namespace Rv
open PySem PySem.Spec PyProof.Rows L2
section
variable {c:SC} {α β γ:Type} [Tr α] [Tr β] [Tr γ]
theorem swapIB_map {a b:Type} (f:a→b) (xs:Array a) (i j:Nat):(xs.swapIfInBounds i j).map f=(xs.map f).swapIfInBounds i j:=by
 by_cases h:i < xs.size∧j < xs.size
 ·apply Array.ext_getElem?
  intro k
  rw [Array.getElem?_map,getElem?_swapIB h.1 h.2,getElem?_swapIB (by rw [Array.size_map]; exact h.1) (by rw [Array.size_map]; exact h.2)]
  simp only [Array.getElem?_map]
  split
  ·rfl
  ·split <;> rfl
 ·have e:∀ {t:Type} (ys:Array t),ys.size=xs.size→ys.swapIfInBounds i j=ys:=by
   intro t ys e
   rw [Array.swapIfInBounds_def]
   split
   ·split
    ·exact absurd ⟨by omega,by omega⟩ h
    ·rfl
   ·rfl
  rw [e xs rfl,e (xs.map f) Array.size_map]
theorem foldl_swaps_map {a b β:Type} (f:a→b) (p q:β→Nat):∀ (l:List β) (xs:Array a),(l.foldl (fun a k=>a.swapIfInBounds (p k) (q k)) xs).map f=l.foldl (fun a k=>a.swapIfInBounds (p k) (q k)) (xs.map f)
 | [],xs=>rfl
 | k::l,xs=>by
  rw [List.foldl_cons,List.foldl_cons,foldl_swaps_map f p q l,swapIB_map]
theorem sim_rev (i j:Nat):Sim c (reverseSlice' i j) (reverseSlice' i j):=by
 rw [reverseSlice'_eq]
 refine sim_modify fun st hk=>⟨hk,?_⟩
 show SortSt.mk' c.k2 ((mirror (arrOf st) i j ((j - i) / 2)).map c.f) _ _ _=SortSt.mk' c.k2 (mirror ((arrOf st).map c.f) i j ((j - i) / 2)) _ _ _
 rw [mirror,mirror,foldl_swaps_map]
 rfl
theorem sim_down (i j:Nat):Sim c (moveDown' i j) (moveDown' i j):=by
 rw [moveDown'_eq]
 refine sim_modify fun st hk=>⟨hk,?_⟩
 show SortSt.mk' c.k2 ((bubble (arrOf st) i (i - j)).map c.f) _ _ _=SortSt.mk' c.k2 (bubble ((arrOf st).map c.f) i (i - j)) _ _ _
 rw [bubble,bubble,foldl_swaps_map]
 rfl
theorem sim_ltAt (hc:c.Lt) (i j:Nat):Sim c (ltAt' i j) (ltAt' i j):=by
 rw [ltAt'_eq]
 exact sim_get_bind fun s hk=>sim_bind (sim_elem rfl) fun x=>sim_bind (sim_elem rfl) fun y=>sim_lt hc x y
theorem sim_beyond (hc:c.Lt) {left:Bool} {key:Keyed} {arr:Array Keyed} {base i:Nat} {key2:Keyed} {arr2:Array Keyed} (hk:key2=c.f key) (ha:arr2=arr.map c.f):Sim c (beyond' left key arr base i) (beyond' left key2 arr2 base i):=by
 subst hk ha
 unfold beyond'
 refine sim_bind (sim_elem rfl) fun x=>?_
 refine sim_if Iff.rfl (sim_lt hc x key) (sim_bind_opt (sim_lt hc key x) ?_ fun b=>?_)
 ·exact sim_pure rfl
 ·exact sim_pure rfl
theorem sim_setMin (g:Nat):Sim c (setMinGallop' g) (setMinGallop' g):=by
 rw [setMinGallop'_eq]
 exact sim_modify fun st hk=>⟨hk,rfl⟩
end
end Rv
end
section
namespace Rv
open PySem PySem.Spec PyProof.Rows L2
section
variable {c:SC} {α β γ:Type} [Tr α] [Tr β] [Tr γ]
theorem sim_bind_ret {m1 m2:StateT SortSt Sem (Option α×β)} {f1 f2:Option α×β→StateT SortSt Sem γ} (h:Sim c m1 m2) (hs:∀ a b,Sim c (f1 (some a,b)) (f2 (some (Tr.tr c a),Tr.tr c b))) (hn:∀ b,Sim c (f1 (none,b)) (f2 (none,Tr.tr c b))):Sim c (m1 >>= f1) (m2 >>= f2) :=
 sim_bind h fun a=>by
  obtain ⟨a,b⟩:=a
  cases a with
  | none=>exact hn b
  | some a=>exact hs a b
end
section
variable {c:SC} {α β γ:Type} [Tr α] [Tr β] [Tr γ]
theorem sim_countRun (hc:c.Lt) (lo nrem:Nat):Sim c (countRun' lo nrem) (countRun' lo nrem):=by
 rw [countRun'_eq]
 dsimp only
 repeat' (first
  | (with_reducible refine sim_pure ?_; (first | rfl | exact Iff.rfl | (simp only [Tr.tr,Option.map,Array.map_push,Array.map_append,Array.map_extract,Array.map_reverse,Array.size_map,List.map_toArray,List.map_cons,List.map_nil]; done) | (simp only [Tr.tr,Option.map,Array.map_push,Array.map_append,Array.map_extract,Array.map_reverse,Array.size_map,List.map_toArray,List.map_cons,List.map_nil]; rfl)))
  | with_reducible exact sim_rule
  | with_reducible exact sim_unsup
  | (with_reducible refine sim_get_bind fun _ _=>?_; try dsimp only)
  | with_reducible refine sim_if ?_ ?_ ?_
  | (with_reducible refine Iff.of_eq ?_; (first | rfl | exact Iff.rfl | (simp only [Tr.tr,Option.map,Array.map_push,Array.map_append,Array.map_extract,Array.map_reverse,Array.size_map,List.map_toArray,List.map_cons,List.map_nil]; done) | (simp only [Tr.tr,Option.map,Array.map_push,Array.map_append,Array.map_extract,Array.map_reverse,Array.size_map,List.map_toArray,List.map_cons,List.map_nil]; rfl)))
  | (with_reducible refine sim_bind_opt ?_ ?_ (fun _=>?_) <;> try dsimp only)
  | (with_reducible refine sim_bind_ret ?_ (fun _ _=>?_) (fun _=>?_) <;> try dsimp only)
  | (with_reducible refine sim_bind ?_ (fun _=>?_) <;> try dsimp only)
  | (refine sim_range (by (first | rfl | exact Iff.rfl | (simp only [Tr.tr,Option.map,Array.map_push,Array.map_append,Array.map_extract,Array.map_reverse,Array.size_map,List.map_toArray,List.map_cons,List.map_nil]; done) | (simp only [Tr.tr,Option.map,Array.map_push,Array.map_append,Array.map_extract,Array.map_reverse,Array.size_map,List.map_toArray,List.map_cons,List.map_nil]; rfl))) (fun _ _=>?_) <;> try dsimp only)
  | exact sim_ltAt hc _ _
  | exact sim_rev _ _
  | exact sim_down _ _
  | exact sim_setMin _
  | (refine sim_elem ?_; (first | rfl | exact Iff.rfl | (simp only [Tr.tr,Option.map,Array.map_push,Array.map_append,Array.map_extract,Array.map_reverse,Array.size_map,List.map_toArray,List.map_cons,List.map_nil]; done) | (simp only [Tr.tr,Option.map,Array.map_push,Array.map_append,Array.map_extract,Array.map_reverse,Array.size_map,List.map_toArray,List.map_cons,List.map_nil]; rfl)))
  | (refine sim_beyond hc ?_ ?_ <;> (first | rfl | exact Iff.rfl | (simp only [Tr.tr,Option.map,Array.map_push,Array.map_append,Array.map_extract,Array.map_reverse,Array.size_map,List.map_toArray,List.map_cons,List.map_nil]; done) | (simp only [Tr.tr,Option.map,Array.map_push,Array.map_append,Array.map_extract,Array.map_reverse,Array.size_map,List.map_toArray,List.map_cons,List.map_nil]; rfl))))
theorem sim_binarySort (hc:c.Lt) (lo n ok:Nat):Sim c (binarySort' lo n ok) (binarySort' lo n ok):=by
 rw [binarySort'_eq]
 dsimp only
 repeat' (first
  | (with_reducible refine sim_pure ?_; (first | rfl | exact Iff.rfl | (simp only [Tr.tr,Option.map,Array.map_push,Array.map_append,Array.map_extract,Array.map_reverse,Array.size_map,List.map_toArray,List.map_cons,List.map_nil]; done) | (simp only [Tr.tr,Option.map,Array.map_push,Array.map_append,Array.map_extract,Array.map_reverse,Array.size_map,List.map_toArray,List.map_cons,List.map_nil]; rfl)))
  | with_reducible exact sim_rule
  | with_reducible exact sim_unsup
  | (with_reducible refine sim_get_bind fun _ _=>?_; try dsimp only)
  | with_reducible refine sim_if ?_ ?_ ?_
  | (with_reducible refine Iff.of_eq ?_; (first | rfl | exact Iff.rfl | (simp only [Tr.tr,Option.map,Array.map_push,Array.map_append,Array.map_extract,Array.map_reverse,Array.size_map,List.map_toArray,List.map_cons,List.map_nil]; done) | (simp only [Tr.tr,Option.map,Array.map_push,Array.map_append,Array.map_extract,Array.map_reverse,Array.size_map,List.map_toArray,List.map_cons,List.map_nil]; rfl)))
  | (with_reducible refine sim_bind_opt ?_ ?_ (fun _=>?_) <;> try dsimp only)
  | (with_reducible refine sim_bind_ret ?_ (fun _ _=>?_) (fun _=>?_) <;> try dsimp only)
  | (with_reducible refine sim_bind ?_ (fun _=>?_) <;> try dsimp only)
  | (refine sim_range (by (first | rfl | exact Iff.rfl | (simp only [Tr.tr,Option.map,Array.map_push,Array.map_append,Array.map_extract,Array.map_reverse,Array.size_map,List.map_toArray,List.map_cons,List.map_nil]; done) | (simp only [Tr.tr,Option.map,Array.map_push,Array.map_append,Array.map_extract,Array.map_reverse,Array.size_map,List.map_toArray,List.map_cons,List.map_nil]; rfl))) (fun _ _=>?_) <;> try dsimp only)
  | exact sim_ltAt hc _ _
  | exact sim_rev _ _
  | exact sim_down _ _
  | exact sim_setMin _
  | (refine sim_elem ?_; (first | rfl | exact Iff.rfl | (simp only [Tr.tr,Option.map,Array.map_push,Array.map_append,Array.map_extract,Array.map_reverse,Array.size_map,List.map_toArray,List.map_cons,List.map_nil]; done) | (simp only [Tr.tr,Option.map,Array.map_push,Array.map_append,Array.map_extract,Array.map_reverse,Array.size_map,List.map_toArray,List.map_cons,List.map_nil]; rfl)))
  | (refine sim_beyond hc ?_ ?_ <;> (first | rfl | exact Iff.rfl | (simp only [Tr.tr,Option.map,Array.map_push,Array.map_append,Array.map_extract,Array.map_reverse,Array.size_map,List.map_toArray,List.map_cons,List.map_nil]; done) | (simp only [Tr.tr,Option.map,Array.map_push,Array.map_append,Array.map_extract,Array.map_reverse,Array.size_map,List.map_toArray,List.map_cons,List.map_nil]; rfl))))
theorem sim_gallop (hc:c.Lt) {left:Bool} {key key2:Keyed} {arr arr2:Array Keyed} {base n hint:Nat} (hk:key2=c.f key) (ha:arr2=arr.map c.f):Sim c (gallop' left key arr base n hint) (gallop' left key2 arr2 base n hint):=by
 subst hk ha
 rw [gallop'_eq,gallop'_eq]
 dsimp only
 repeat' (first
  | (with_reducible refine sim_pure ?_; (first | rfl | exact Iff.rfl | (simp only [Tr.tr,Option.map,Array.map_push,Array.map_append,Array.map_extract,Array.map_reverse,Array.size_map,List.map_toArray,List.map_cons,List.map_nil]; done) | (simp only [Tr.tr,Option.map,Array.map_push,Array.map_append,Array.map_extract,Array.map_reverse,Array.size_map,List.map_toArray,List.map_cons,List.map_nil]; rfl)))
  | with_reducible exact sim_rule
  | with_reducible exact sim_unsup
  | (with_reducible refine sim_get_bind fun _ _=>?_; try dsimp only)
  | with_reducible refine sim_if ?_ ?_ ?_
  | (with_reducible refine Iff.of_eq ?_; (first | rfl | exact Iff.rfl | (simp only [Tr.tr,Option.map,Array.map_push,Array.map_append,Array.map_extract,Array.map_reverse,Array.size_map,List.map_toArray,List.map_cons,List.map_nil]; done) | (simp only [Tr.tr,Option.map,Array.map_push,Array.map_append,Array.map_extract,Array.map_reverse,Array.size_map,List.map_toArray,List.map_cons,List.map_nil]; rfl)))
  | (with_reducible refine sim_bind_opt ?_ ?_ (fun _=>?_) <;> try dsimp only)
  | (with_reducible refine sim_bind_ret ?_ (fun _ _=>?_) (fun _=>?_) <;> try dsimp only)
  | (with_reducible refine sim_bind ?_ (fun _=>?_) <;> try dsimp only)
  | (refine sim_range (by (first | rfl | exact Iff.rfl | (simp only [Tr.tr,Option.map,Array.map_push,Array.map_append,Array.map_extract,Array.map_reverse,Array.size_map,List.map_toArray,List.map_cons,List.map_nil]; done) | (simp only [Tr.tr,Option.map,Array.map_push,Array.map_append,Array.map_extract,Array.map_reverse,Array.size_map,List.map_toArray,List.map_cons,List.map_nil]; rfl))) (fun _ _=>?_) <;> try dsimp only)
  | exact sim_ltAt hc _ _
  | exact sim_rev _ _
  | exact sim_down _ _
  | exact sim_setMin _
  | (refine sim_elem ?_; (first | rfl | exact Iff.rfl | (simp only [Tr.tr,Option.map,Array.map_push,Array.map_append,Array.map_extract,Array.map_reverse,Array.size_map,List.map_toArray,List.map_cons,List.map_nil]; done) | (simp only [Tr.tr,Option.map,Array.map_push,Array.map_append,Array.map_extract,Array.map_reverse,Array.size_map,List.map_toArray,List.map_cons,List.map_nil]; rfl)))
  | (refine sim_beyond hc ?_ ?_ <;> (first | rfl | exact Iff.rfl | (simp only [Tr.tr,Option.map,Array.map_push,Array.map_append,Array.map_extract,Array.map_reverse,Array.size_map,List.map_toArray,List.map_cons,List.map_nil]; done) | (simp only [Tr.tr,Option.map,Array.map_push,Array.map_append,Array.map_extract,Array.map_reverse,Array.size_map,List.map_toArray,List.map_cons,List.map_nil]; rfl))))
end
end Rv
end
section
namespace Rv
open PySem PySem.Spec PyProof.Rows L2
section
variable {c:SC} {α β γ:Type} [Tr α] [Tr β] [Tr γ]
theorem sim_mergeLo (hc:c.Lt) {a b a2 b2:Array Keyed} (ha:a2=a.map c.f) (hb:b2=b.map c.f):Sim c (mergeLo' a b) (mergeLo' a2 b2):=by
 subst ha hb
 rw [mergeLo'_eq,mergeLo'_eq]
 simp only [Array.size_map]
 repeat' (first
  | (with_reducible refine sim_pure ?_; (first | rfl | exact Iff.rfl | (simp only [Tr.tr,Option.map,Array.map_push,Array.map_append,Array.map_extract,Array.map_reverse,Array.size_map,List.map_toArray,List.map_cons,List.map_nil]; done) | (simp only [Tr.tr,Option.map,Array.map_push,Array.map_append,Array.map_extract,Array.map_reverse,Array.size_map,List.map_toArray,List.map_cons,List.map_nil]; rfl)))
  | with_reducible exact sim_rule
  | with_reducible exact sim_unsup
  | (with_reducible refine sim_get_bind fun _ _=>?_; try dsimp only)
  | with_reducible refine sim_if ?_ ?_ ?_
  | (with_reducible refine Iff.of_eq ?_; (first | rfl | exact Iff.rfl | (simp only [Tr.tr,Option.map,Array.map_push,Array.map_append,Array.map_extract,Array.map_reverse,Array.size_map,List.map_toArray,List.map_cons,List.map_nil]; done) | (simp only [Tr.tr,Option.map,Array.map_push,Array.map_append,Array.map_extract,Array.map_reverse,Array.size_map,List.map_toArray,List.map_cons,List.map_nil]; rfl)))
  | (with_reducible refine sim_bind_opt ?_ ?_ (fun _=>?_) <;> try dsimp only)
  | (with_reducible refine sim_bind_ret ?_ (fun _ _=>?_) (fun _=>?_) <;> try dsimp only)
  | (with_reducible refine sim_bind ?_ (fun _=>?_) <;> try dsimp only)
  | (refine sim_range (by (first | rfl | exact Iff.rfl | (simp only [Tr.tr,Option.map,Array.map_push,Array.map_append,Array.map_extract,Array.map_reverse,Array.size_map,List.map_toArray,List.map_cons,List.map_nil]; done) | (simp only [Tr.tr,Option.map,Array.map_push,Array.map_append,Array.map_extract,Array.map_reverse,Array.size_map,List.map_toArray,List.map_cons,List.map_nil]; rfl))) (fun _ _=>?_) <;> try dsimp only)
  | exact sim_ltAt hc _ _
  | exact sim_rev _ _
  | exact sim_down _ _
  | exact sim_setMin _
  | (refine sim_elem ?_; (first | rfl | exact Iff.rfl | (simp only [Tr.tr,Option.map,Array.map_push,Array.map_append,Array.map_extract,Array.map_reverse,Array.size_map,List.map_toArray,List.map_cons,List.map_nil]; done) | (simp only [Tr.tr,Option.map,Array.map_push,Array.map_append,Array.map_extract,Array.map_reverse,Array.size_map,List.map_toArray,List.map_cons,List.map_nil]; rfl)))
  | (refine sim_beyond hc ?_ ?_ <;> (first | rfl | exact Iff.rfl | (simp only [Tr.tr,Option.map,Array.map_push,Array.map_append,Array.map_extract,Array.map_reverse,Array.size_map,List.map_toArray,List.map_cons,List.map_nil]; done) | (simp only [Tr.tr,Option.map,Array.map_push,Array.map_append,Array.map_extract,Array.map_reverse,Array.size_map,List.map_toArray,List.map_cons,List.map_nil]; rfl)))
  | exact sim_lt hc _ _
  | (refine sim_gallop hc ?_ ?_ <;> (first | rfl | exact Iff.rfl | (simp only [Tr.tr,Option.map,Array.map_push,Array.map_append,Array.map_extract,Array.map_reverse,Array.size_map,List.map_toArray,List.map_cons,List.map_nil]; done) | (simp only [Tr.tr,Option.map,Array.map_push,Array.map_append,Array.map_extract,Array.map_reverse,Array.size_map,List.map_toArray,List.map_cons,List.map_nil]; rfl)))
  | (refine sim_range (b:=Tr.tr _ _) ?_ (fun _ _=>?_) <;> try dsimp only))
theorem sim_mergeHi (hc:c.Lt) {a b a2 b2:Array Keyed} (ha:a2=a.map c.f) (hb:b2=b.map c.f):Sim c (mergeHi' a b) (mergeHi' a2 b2):=by
 subst ha hb
 rw [mergeHi'_eq,mergeHi'_eq]
 simp only [Array.size_map]
 repeat' (first
  | (with_reducible refine sim_pure ?_; (first | rfl | exact Iff.rfl | (simp only [Tr.tr,Option.map,Array.map_push,Array.map_append,Array.map_extract,Array.map_reverse,Array.size_map,List.map_toArray,List.map_cons,List.map_nil]; done) | (simp only [Tr.tr,Option.map,Array.map_push,Array.map_append,Array.map_extract,Array.map_reverse,Array.size_map,List.map_toArray,List.map_cons,List.map_nil]; rfl)))
  | with_reducible exact sim_rule
  | with_reducible exact sim_unsup
  | (with_reducible refine sim_get_bind fun _ _=>?_; try dsimp only)
  | with_reducible refine sim_if ?_ ?_ ?_
  | (with_reducible refine Iff.of_eq ?_; (first | rfl | exact Iff.rfl | (simp only [Tr.tr,Option.map,Array.map_push,Array.map_append,Array.map_extract,Array.map_reverse,Array.size_map,List.map_toArray,List.map_cons,List.map_nil]; done) | (simp only [Tr.tr,Option.map,Array.map_push,Array.map_append,Array.map_extract,Array.map_reverse,Array.size_map,List.map_toArray,List.map_cons,List.map_nil]; rfl)))
  | (with_reducible refine sim_bind_opt ?_ ?_ (fun _=>?_) <;> try dsimp only)
  | (with_reducible refine sim_bind_ret ?_ (fun _ _=>?_) (fun _=>?_) <;> try dsimp only)
  | (with_reducible refine sim_bind ?_ (fun _=>?_) <;> try dsimp only)
  | (refine sim_range (by (first | rfl | exact Iff.rfl | (simp only [Tr.tr,Option.map,Array.map_push,Array.map_append,Array.map_extract,Array.map_reverse,Array.size_map,List.map_toArray,List.map_cons,List.map_nil]; done) | (simp only [Tr.tr,Option.map,Array.map_push,Array.map_append,Array.map_extract,Array.map_reverse,Array.size_map,List.map_toArray,List.map_cons,List.map_nil]; rfl))) (fun _ _=>?_) <;> try dsimp only)
  | exact sim_ltAt hc _ _
  | exact sim_rev _ _
  | exact sim_down _ _
  | exact sim_setMin _
  | (refine sim_elem ?_; (first | rfl | exact Iff.rfl | (simp only [Tr.tr,Option.map,Array.map_push,Array.map_append,Array.map_extract,Array.map_reverse,Array.size_map,List.map_toArray,List.map_cons,List.map_nil]; done) | (simp only [Tr.tr,Option.map,Array.map_push,Array.map_append,Array.map_extract,Array.map_reverse,Array.size_map,List.map_toArray,List.map_cons,List.map_nil]; rfl)))
  | (refine sim_beyond hc ?_ ?_ <;> (first | rfl | exact Iff.rfl | (simp only [Tr.tr,Option.map,Array.map_push,Array.map_append,Array.map_extract,Array.map_reverse,Array.size_map,List.map_toArray,List.map_cons,List.map_nil]; done) | (simp only [Tr.tr,Option.map,Array.map_push,Array.map_append,Array.map_extract,Array.map_reverse,Array.size_map,List.map_toArray,List.map_cons,List.map_nil]; rfl)))
  | exact sim_lt hc _ _
  | (refine sim_gallop hc ?_ ?_ <;> (first | rfl | exact Iff.rfl | (simp only [Tr.tr,Option.map,Array.map_push,Array.map_append,Array.map_extract,Array.map_reverse,Array.size_map,List.map_toArray,List.map_cons,List.map_nil]; done) | (simp only [Tr.tr,Option.map,Array.map_push,Array.map_append,Array.map_extract,Array.map_reverse,Array.size_map,List.map_toArray,List.map_cons,List.map_nil]; rfl)))
  | (refine sim_range (b:=Tr.tr _ _) ?_ (fun _ _=>?_) <;> try dsimp only))
end
end Rv
end
section
namespace Rv
open PySem PySem.Spec PyProof.Rows L2
section
variable {c:SC} {α β γ:Type} [Tr α] [Tr β] [Tr γ]
theorem foldl_set_map (f:Keyed→Keyed) (sa:Nat):∀ (l:List (Keyed×Nat)) (xs:Array Keyed),(l.foldl (fun a q=>a.setIfInBounds (sa + q.2) q.1) xs).map f=(l.map fun q=>(f q.1,q.2)).foldl (fun a q=>a.setIfInBounds (sa + q.2) q.1) (xs.map f)
 | [],xs=>rfl
 | q::l,xs=>by
  rw [List.foldl_cons,List.map_cons,List.foldl_cons,foldl_set_map f sa l,Array.map_setIfInBounds]
theorem sim_unsupL {m1:StateT SortSt Sem α} {w:String}:Sim c m1 (liftM (unsupported w:Sem α):StateT SortSt Sem α):=by
 intro R st p1 p2 hk h
 have w1:Sem.wp c.M c.gm ((StateT.lift (unsupported w:Sem α):StateT SortSt Sem α).run (c.F st)) (fun r p s=>R r.1 r.2 p s) (fun _ _ _=>False) p2 c.s2:=h
 rw [StateT.run_lift,Sem.wp_bind'] at w1
 exact absurd w1 (by intro h; exact h)
theorem sim_put (sa:Nat) (m:Array Keyed):Sim c (modify fun s=>setArr s (m.toList.zipIdx.foldl (fun a (p,j)=>a.setIfInBounds (sa + j) p) (arrOf s)):StateT SortSt Sem PUnit)
  (modify fun s=>setArr s ((m.map c.f).toList.zipIdx.foldl (fun a (p,j)=>a.setIfInBounds (sa + j) p) (arrOf s))):=by
 refine sim_modify fun st hk=>⟨hk,?_⟩
 show SortSt.mk' c.k2 ((m.toList.zipIdx.foldl (fun a q=>a.setIfInBounds (sa + q.2) q.1) (arrOf st)).map c.f) (pendingOf st) (gallopOf st) (failedOf st)=SortSt.mk' c.k2 ((m.map c.f).toList.zipIdx.foldl (fun a q=>a.setIfInBounds (sa + q.2) q.1) ((arrOf st).map c.f)) (pendingOf st) (gallopOf st) (failedOf st)
 rw [foldl_set_map,Array.toList_map,List.zipIdx_map]
 rfl
theorem sim_mergeAt (hc:c.Lt) (i:Nat):Sim c (mergeAt' i) (mergeAt' i):=by
 rw [mergeAt'_eq]
 refine sim_get_bind fun s hk=>?_
 show Sim c _ (match ((pendingOf s)[i]?,(pendingOf s)[i + 1]?) with
  | (some (sa,na,power),some (sb,nb,snd))=>_
  | x=>_)
 generalize (pendingOf s)[i]?=o1
 generalize (pendingOf s)[i + 1]?=o2
 cases o1 with
 | none=>exact sim_unsupL
 | some t1 =>
  obtain ⟨sa,na,pw⟩:=t1
  cases o2 with
  | none=>exact sim_unsupL
  | some t2 =>
   obtain ⟨sb,nb,pw2⟩:=t2
   dsimp only
   refine sim_bind (sim_set hk rfl) fun _=>?_
   refine sim_bind (sim_elem rfl) fun x=>sim_bind_opt (sim_gallop hc rfl rfl) (sim_pure rfl) fun k=>?_
   refine sim_if Iff.rfl (sim_pure rfl) ?_
   refine sim_bind (sim_elem rfl) fun y=>sim_bind_opt (sim_gallop hc rfl rfl) (sim_pure rfl) fun nb'=>?_
   refine sim_if Iff.rfl (sim_pure rfl) ?_
   have fin:∀ (sa:Nat) (m:Array Keyed),Sim c (do
     modify fun s=>setArr s (m.toList.zipIdx.foldl (fun a (p,j)=>a.setIfInBounds (sa + j) p) (arrOf s))
     return (failedOf (← get)).isNone:StateT SortSt Sem Bool) (do
     modify fun s=>setArr s ((m.map c.f).toList.zipIdx.foldl (fun a (p,j)=>a.setIfInBounds (sa + j) p) (arrOf s))
     return (failedOf (← get)).isNone):=fun sa m=>sim_bind (sim_put sa m) fun _=>sim_get_bind fun s hk=>sim_pure rfl
   refine sim_if Iff.rfl ?_ ?_
   ·exact sim_bind (sim_mergeLo hc Array.map_extract.symm Array.map_extract.symm) fun m=>fin _ m
   ·exact sim_bind (sim_mergeHi hc Array.map_extract.symm Array.map_extract.symm) fun m=>fin _ m
theorem sim_sortRuns (hc:c.Lt):Sim c sortRuns' sortRuns':=by
 rw [sortRuns'_eq]
 refine sim_get_bind fun s hk=>?_
 have e:(arrOf (c.F s)).size=(arrOf s).size:=Array.size_map
 rw [e]
 generalize (arrOf s).size=size
 dsimp only
 repeat' first | exact sim_countRun hc _ _ | exact sim_binarySort hc _ _ _ | exact sim_mergeAt hc _ | (first
  | (with_reducible refine sim_pure ?_; (first | rfl | exact Iff.rfl | (simp only [Tr.tr,Option.map,Array.map_push,Array.map_append,Array.map_extract,Array.map_reverse,Array.size_map,List.map_toArray,List.map_cons,List.map_nil]; done) | (simp only [Tr.tr,Option.map,Array.map_push,Array.map_append,Array.map_extract,Array.map_reverse,Array.size_map,List.map_toArray,List.map_cons,List.map_nil]; rfl)))
  | with_reducible exact sim_rule
  | with_reducible exact sim_unsup
  | (with_reducible refine sim_get_bind fun _ _=>?_; try dsimp only)
  | with_reducible refine sim_if ?_ ?_ ?_
  | (with_reducible refine Iff.of_eq ?_; (first | rfl | exact Iff.rfl | (simp only [Tr.tr,Option.map,Array.map_push,Array.map_append,Array.map_extract,Array.map_reverse,Array.size_map,List.map_toArray,List.map_cons,List.map_nil]; done) | (simp only [Tr.tr,Option.map,Array.map_push,Array.map_append,Array.map_extract,Array.map_reverse,Array.size_map,List.map_toArray,List.map_cons,List.map_nil]; rfl)))
  | (with_reducible refine sim_bind_opt ?_ ?_ (fun _=>?_) <;> try dsimp only)
  | (with_reducible refine sim_bind_ret ?_ (fun _ _=>?_) (fun _=>?_) <;> try dsimp only)
  | (with_reducible refine sim_bind ?_ (fun _=>?_) <;> try dsimp only)
  | (refine sim_range (by (first | rfl | exact Iff.rfl | (simp only [Tr.tr,Option.map,Array.map_push,Array.map_append,Array.map_extract,Array.map_reverse,Array.size_map,List.map_toArray,List.map_cons,List.map_nil]; done) | (simp only [Tr.tr,Option.map,Array.map_push,Array.map_append,Array.map_extract,Array.map_reverse,Array.size_map,List.map_toArray,List.map_cons,List.map_nil]; rfl))) (fun _ _=>?_) <;> try dsimp only)
  | exact sim_ltAt hc _ _
  | exact sim_rev _ _
  | exact sim_down _ _
  | exact sim_setMin _
  | (refine sim_elem ?_; (first | rfl | exact Iff.rfl | (simp only [Tr.tr,Option.map,Array.map_push,Array.map_append,Array.map_extract,Array.map_reverse,Array.size_map,List.map_toArray,List.map_cons,List.map_nil]; done) | (simp only [Tr.tr,Option.map,Array.map_push,Array.map_append,Array.map_extract,Array.map_reverse,Array.size_map,List.map_toArray,List.map_cons,List.map_nil]; rfl)))
  | (refine sim_beyond hc ?_ ?_ <;> (first | rfl | exact Iff.rfl | (simp only [Tr.tr,Option.map,Array.map_push,Array.map_append,Array.map_extract,Array.map_reverse,Array.size_map,List.map_toArray,List.map_cons,List.map_nil]; done) | (simp only [Tr.tr,Option.map,Array.map_push,Array.map_append,Array.map_extract,Array.map_reverse,Array.size_map,List.map_toArray,List.map_cons,List.map_nil]; rfl)))
  | exact sim_lt hc _ _
  | (refine sim_gallop hc ?_ ?_ <;> (first | rfl | exact Iff.rfl | (simp only [Tr.tr,Option.map,Array.map_push,Array.map_append,Array.map_extract,Array.map_reverse,Array.size_map,List.map_toArray,List.map_cons,List.map_nil]; done) | (simp only [Tr.tr,Option.map,Array.map_push,Array.map_append,Array.map_extract,Array.map_reverse,Array.size_map,List.map_toArray,List.map_cons,List.map_nil]; rfl)))
  | (refine sim_range (b:=Tr.tr _ _) ?_ (fun _ _=>?_) <;> try dsimp only)
  | (refine sim_mergeLo hc ?_ ?_ <;> (first | rfl | exact Iff.rfl | (simp only [Tr.tr,Option.map,Array.map_push,Array.map_append,Array.map_extract,Array.map_reverse,Array.size_map,List.map_toArray,List.map_cons,List.map_nil]; done) | (simp only [Tr.tr,Option.map,Array.map_push,Array.map_append,Array.map_extract,Array.map_reverse,Array.size_map,List.map_toArray,List.map_cons,List.map_nil]; rfl)))
  | (refine sim_mergeHi hc ?_ ?_ <;> (first | rfl | exact Iff.rfl | (simp only [Tr.tr,Option.map,Array.map_push,Array.map_append,Array.map_extract,Array.map_reverse,Array.size_map,List.map_toArray,List.map_cons,List.map_nil]; done) | (simp only [Tr.tr,Option.map,Array.map_push,Array.map_append,Array.map_extract,Array.map_reverse,Array.size_map,List.map_toArray,List.map_cons,List.map_nil]; rfl)))) | (show (_↔_); exact Iff.rfl)
 all_goals
  rename_i s' hk'
  have e2:pendingOf (c.F s')=pendingOf s':=rfl
  rw [e2]
  generalize (pendingOf s').back?=o
  cases o with
  | none=>exact sim_bind (sim_modify fun st hk=>⟨hk,rfl⟩) fun _=>sim_pure rfl
  | some t =>
   obtain ⟨s1,n1,q⟩:=t
   refine sim_bind_ret (sim_range rfl fun x a=>sim_get_bind fun s2 hk2=>?_) (fun a b=>sim_pure rfl) fun b=>sim_bind (sim_modify fun st hk=>⟨hk,rfl⟩) fun _=>sim_bind (sim_modify fun st hk=>⟨hk,rfl⟩) fun _=>sim_pure rfl
   have e3:pendingOf (c.F s2)=pendingOf s2:=rfl
   rw [e3]
   generalize (if (pendingOf s2).size > 1 then (pendingOf s2)[(pendingOf s2).size - 2]? else none)=o2
   cases o2 with
   | none=>exact sim_pure rfl
   | some t2 =>
    obtain ⟨u1,u2,older⟩:=t2
    exact sim_if Iff.rfl (sim_pure rfl) (sim_bind (sim_mergeAt hc _) fun b=>sim_if Iff.rfl (sim_pure rfl) (sim_pure rfl))
end
end Rv
end
section
namespace L2
open PySem PySem.Spec PyProof.Rows
def KD (P:Program) (w:World) (K:PySem.W.Frag) (a:Addr) (kvs:List (Key×V)):Prop :=
 (a==sysModules)=false∧∃ vs,KV kvs vs∧∀ h:Heap,K.In h→h.DictOf (mixKind P w) a vs
structure KEnt (w:World) (e:DictEntry) (k:Key) (v:V):Prop where
 key:keyIs k e.key=true
 hash:e.hash=keyH w k
 val:RelV v e.val
theorem kd_of {P:Program} {w:World} {K:PySem.W.Frag} {a:Addr} {es:List DictEntry} {ep:Nat} {kvs:List (Key×V)} (hl:K.lookup a=some { cls:=.type "dict",data:=.dict es.toArray ep }) (hs:(a==sysModules)=false)
  (hp:Paired (fun e (p:Key×V)=>KEnt w e p.1 p.2) es kvs) (hn:(kvs.map (·.1)).Nodup):KD P w K a kvs:=by
 have go:∀ {es:List DictEntry} {kvs:List (Key×V)},Paired (fun e (p:Key×V)=>KEnt w e p.1 p.2) es kvs →
   KV kvs ((kvs.zip es).map fun q=>(q.1.1,q.2.val))∧(∀ e∈es,∃ k,keyIs k e.key=true∧e.hash=keyH w k)∧Pairs (mixKind P w) es ((kvs.zip es).map fun q=>(q.1.1,q.2.val))∧((kvs.zip es).map fun q=>(q.1.1,q.2.val)).map (·.1)=kvs.map (·.1):=by
  intro es kvs h
  induction h with
  | nil=>exact ⟨.nil,fun e he=>(by cases he),.nil,rfl⟩
  | @cons e p es kvs h _ ih =>
   obtain ⟨i1,i2,i3,i4⟩:=ih
   refine ⟨.cons ⟨rfl,h.val⟩ i1,fun x hx=>?_,.cons h.key rfl i3,?_⟩
   ·rcases List.mem_cons.mp hx with rfl | hx
    ·exact ⟨p.1,h.key,h.hash⟩
    ·exact i2 x hx
   ·exact congrArg (p.1::·) i4
 obtain ⟨g1,g2,g3,g4⟩:=go hp
 refine ⟨hs,_,g1,fun h X=>⟨_,es.toArray,ep,X a _ hl,⟨rfl,rfl,rfl⟩,rfl,fun e he=>g2 e (by simpa using he),by simpa using g3,by rw [g4]; exact hn⟩⟩
section
variable {X:Cx} {o i e:Expr} {pos:Pos} {td ty:TE} {a:Addr} {kvs:List (Key×V)}
def tKGet (a:Addr) (kvs:List (Key×V)) (td ty:TE):TE:=fun σ H Q=>td σ H fun x H1=>ty σ H1 fun y H2=>x=.ref a∧∃ k v,y=kV k∧valV kvs k=some v∧Q v H2
theorem pe_kget (hk:KD X.prog X.w X.K a kvs) (ho:PE X o td) (hi:PE X i ty) (hs:NoSl i):PE X (.Subscript o i pos) (tKGet a kvs td ty):=by
 intro pins s σ H Q I h
 refine subD_of PySem.F.slot_dict_getitem.lookup hs (thn (ho pins s σ H _ I h) fun u s1 ⟨x,H1,I1,rx,q1⟩=>thn (hi pins s1 σ H1 _ I1 q1) fun iv s2 ⟨y,H2,I2,ry,ex,k,v,ey,l,q2⟩=>?_)
 subst ex ey
 obtain rfl:u=Value.ref a:=rx
 obtain ⟨hd,vs,rel,dd⟩:=hk
 have dd:=dd _ I2.kIn
 obtain ⟨w',hw,rw'⟩:=RelO.some_of (v:=v) (o:=valueAt vs k) (by rw [←l]; exact rel.val k)
 exact ⟨dd.typeIs,wpAny_getItem_of (kV_is ry) dd.mapOf hw ⟨v,H2,I2.tok _,rw',q2⟩⟩
def tKNotIn (a:Addr) (kvs:List (Key×V)) (ty td:TE):TE:=fun σ H Q=>ty σ H fun y H1=>td σ H1 fun x H2=>x=.ref a∧∃ k,y=kV k∧Q (.bl (!(valV kvs k).isSome)) H2
theorem pc_knotin (hk:KD X.prog X.w X.K a kvs) (hi:PE X i ty) (ho:PE X o td):PC X .NotIn i o (tKNotIn a kvs ty td):=by
 intro pins s σ H Q I h
 refine thn (hi pins s σ H _ I h) fun iv s1 ⟨y,H1,I1,ry,q1⟩=>thn (ho pins s1 σ H1 _ I1 q1) fun u s2 ⟨x,H2,I2,rx,ex,k,ey,q2⟩=>?_
 subst ex ey
 obtain rfl:u=Value.ref a:=rx
 obtain ⟨hd,vs,rel,dd⟩:=hk
 have dd:=dd _ I2.kIn
 refine wpAny_notIn_of (kV_is ry) hd dd.mapOf ?_
 rw [←(rel.val k).isSome_eq]
 exact ⟨.bl (!(valV kvs k).isSome),H2,I2.tok _,rfl,q2⟩
end
section
variable {X:Cx}
theorem call_dict_of:CallR X (.type "dict") (fun xs H Q=>∃ p kvs,xs=[.ref p]∧H p=some (.dK kvs)∧∀ l,H l=none→Q (.ref l) (upd H l (.dK kvs))):=by
 intro pins s σ H xs us Q I r h
 obtain ⟨p,kvs,rfl,hp,q⟩:=h
 obtain ⟨u,rfl,ru⟩:=Vals.one r
 cases ru
 obtain ⟨z,hd,vs,rel,dd⟩:=dk_rd I.hok (.inl hp)
 refine kt_call_dict hd dd (by rw [←rel.length]; exact z) fun h' dd' hs=>?_
 have keep:∀ b u,s.heap.get? b=some u→h'.get? b=some u:=fun b u e=>by
  have hlt:=Heap.lt_size e
  rw [hs.2 b (Nat.ne_of_lt hlt)]
  exact Heap.get?_push_of_some _ e
 refine ⟨.ref s.heap.objs.size,_,I.laid (t':=s.toks) (o:=.dK kvs) keep (Nat.le_refl _) ?_,rfl,q _ I.fresh⟩
 exact ⟨z,beq_eq_false_iff_ne.mpr (Ne.symm (Nat.ne_of_lt I.big)),vs,rel,dd'⟩
end
end L2
end
section
namespace HT
open PySem PySem.Spec PyProof.Rows L2
open PySem.SeqAt
open PySem.AutoSeq1 (wpAny_loadPart')
open PySem.MeetsSeq PySem.MeetsSeq2 PySem.MeetsSeq3
theorem drop_at {ns:List Int} {i:Nat} (h:i < ns.length):ns.drop i=ns[i]::ns.drop (i + 1):=List.drop_eq_getElem_cons h
theorem int_at {items:Array Value} {ns:List Int} (hi:IntsAre items.toList ns) {i:Nat} (h:i < ns.length):∃ t,items[i]?=some (.int ns[i] t):=by
 obtain ⟨t,e⟩:=hi.get i ns[i] (List.getElem?_eq_getElem h)
 exact ⟨t,by rw [←Array.getElem?_toList]; exact e⟩
theorem lt_loopAt (l b:Addr) (items items2:Array Value) (n n2:Nat) (dd dd2:Option Addr) (sl sl2:Array (Option Value)) (ns ms:List Int) (hi:IntsAre items.toList ns) (hj:IntsAre items2.toList ms) (k:Nat) :
  ∀ i:Nat,min ns.length ms.length - i=k→i≤min ns.length ms.length→Meets (Builtin.«list.__eq__.loop» ⟨[.ref l,.ref b,rawInt i,rawInt 0],[]⟩)
   (fun A R s=>s.heap.get? l=some { cls:=.type "list",dict:=dd,data:=.seq items n,slots:=sl }∧s.heap.get? b=some { cls:=.type "list",dict:=dd2,data:=.seq items2 n2,slots:=sl2 } ∧
    R (.ok (.ret (.bool (lexLt (ns.drop i) (ms.drop i))))) s):=by
 have z1:items.size=ns.length:=by rw [←hi.length]; simp
 have z2:items2.size=ms.length:=by rw [←hj.length]; simp
 induction k with
 | zero =>
  intro i hk hle prog w A R s h
  obtain ⟨hp,g,d,tk,os⟩:=s; obtain ⟨hl,hb,h⟩:=h
  wp_walk using wpAny_loadPart' hl,wpAny_loadPart' hb
  have hv:lexLt (ns.drop i) (ms.drop i)=decide (items.size < items2.size):=by
   by_cases h1:ns.length≤i
   ·rw [List.drop_eq_nil_of_le h1]
    by_cases h2:ms.length≤i
    ·rw [List.drop_eq_nil_of_le h2,lexLt_nil_nil]; exact (decide_eq_false (by omega)).symm
    ·rw [drop_at (by omega),lexLt_nil_cons]; exact (decide_eq_true (by omega)).symm
   ·rw [drop_at (ns:=ns) (by omega),List.drop_eq_nil_of_le (as:=ms) (by omega),lexLt_cons_nil]; exact (decide_eq_false (by omega)).symm
  rw [hv] at h
  by_cases h1:ns.length≤i
  ·have hi1:items[((i:Nat):Int).toNat]?=none:=by simp; omega
   rw [hi1]
   wp_walk using wpAny_loadPart' hl,wpAny_loadPart' hb
   exact h
  ·have hi1:items[((i:Nat):Int).toNat]?=some (items[i]'(by omega)):=by simp [show i < items.size by omega]
   have hi2:items2[((i:Nat):Int).toNat]?=none:=by simp; omega
   rw [hi1,hi2]
   wp_walk using wpAny_loadPart' hl,wpAny_loadPart' hb
   exact h
 | succ k ih =>
  intro i hk hle prog w A R s h
  obtain ⟨hp,g,d,tk,os⟩:=s; obtain ⟨hl,hb,h⟩:=h
  wp_walk using wpAny_loadPart' hl,wpAny_loadPart' hb
  obtain ⟨t,e1⟩:=int_at hi (i:=i) (by omega)
  obtain ⟨u,e2⟩:=int_at hj (i:=i) (by omega)
  have hi1:items[((i:Nat):Int).toNat]?=some (.int ns[i] t):=by simpa using e1
  have hi2:items2[((i:Nat):Int).toNat]?=some (.int ms[i] u):=by simpa using e2
  have hc:((i:Int) + 1)=((i + 1:Nat):Int):=by push_cast; rfl
  rw [drop_at (ns:=ns) (by omega),drop_at (ns:=ms) (by omega),lexLt_cons] at h
  rw [hi1,hi2]
  obtain ⟨e,he,hiff⟩:=eqAt_int A.in1 ⟨hp,g,d,tk,os⟩ ns[i] t ms[i] u
  refine wpAny_bind (he prog w _ _ ?_)
  cases hb':e with
  | true =>
   rw [if_pos (hiff.mp hb')] at h
   wp_walk
   rw [hc]
   exact ⟨plainId_quiet plain_eq_loop _,codeAny_builtin entry_eq_loop (by
    rw [Around.under_plainId plain_eq_loop _]
    exact ih (i + 1) (by omega) (by omega) prog w A R _ ⟨hl,hb,h⟩)⟩
  | false =>
   rw [if_neg (fun q=>absurd (hiff.mpr q) (by rw [hb']; exact Bool.false_ne_true))] at h
   wp_walk using wpAny_loadPart' hl,wpAny_loadPart' hb
   rw [hi1,hi2]
   have hri:=rcLt_int A.in1 ⟨hp,g,d,tk,os⟩ ns[i] t ms[i] u prog w
   wp_walk using hri
   exact h
theorem list_lt_ints (l b:Addr) (items items2:Array Value) (n n2:Nat) (dd dd2:Option Addr) (sl sl2:Array (Option Value)) (ns ms:List Int) (hi:IntsAre items.toList ns) (hj:IntsAre items2.toList ms) :
  Meets (Builtin.«list.__lt__» ⟨[.ref l,.ref b],[]⟩)
   (fun _ R s=>s.heap.get? l=some { cls:=.type "list",dict:=dd,data:=.seq items n,slots:=sl }∧s.heap.get? b=some { cls:=.type "list",dict:=dd2,data:=.seq items2 n2,slots:=sl2 } ∧
    R (.ok (.ret (.bool (lexLt ns ms)))) s):=by
 intro prog w A R s h
 obtain ⟨hp,g,d,tk,os⟩:=s; obtain ⟨hl,hb,h⟩:=h
 have f3:=AutoSeq1.sub_list_list
 wp_walk using wpAny_loadPart' hl,wpAny_loadPart' hb
 exact ⟨plainId_quiet plain_eq_loop _,codeAny_builtin entry_eq_loop (by
  rw [Around.under_plainId plain_eq_loop _]
  exact lt_loopAt l b items items2 n n2 dd dd2 sl sl2 ns ms hi hj _ 0 rfl (Nat.zero_le _) prog w A R _ ⟨hl,hb,h⟩)⟩
section
variable {prog:Program} {w:World} {A:Around} {E:Value→Shared→Prop} {s:Shared}
theorem lt_listInts {l b:Addr} {items items2:Array Value} {ns ms:List Int} {Q:Value→Shared→Prop} (hl:s.heap.IsList l items) (hb:s.heap.IsList b items2) (hi:IntsAre items.toList ns) (hj:IntsAre items2.toList ms)
  (hu:A.units < cLine) (h:Q (.bool (lexLt ns ms)) s):wpAny (model prog w) A (compareOp .Lt (.ref l) (.ref b)) Q E s:=by
 obtain ⟨⟨cls,dd,data,sl⟩,ho,hc,n,hd⟩:=id hl
 obtain ⟨⟨cls2,dd2,data2,sl2⟩,ho2,hc2,n2,hd2⟩:=id hb
 simp only at hc hd hc2 hd2
 subst hc hd hc2 hd2
 exact richCompare_meets_room (op:=.Lt) ⟨_,ho,rfl⟩ ⟨_,ho2,rfl⟩ PySem.F.slot_list_lt PySem.F.entry_list_lt (PySem.F.args_list_lt_2 _ _) (list_lt_ints l b items items2 n n2 dd dd2 sl sl2 ns ms hi hj)
  ⟨ho,ho2,show Value.bool (lexLt ns ms)≠Value.notImplemented∧Q (.bool (lexLt ns ms)) s from ⟨(fun x=>nomatch x),h⟩⟩ hu
end
inductive LtRow (A:Around) (s:Shared):List Value→List Value→Bool→Prop
 | nil:LtRow A s [] [] false
 | same {v u:Value} {vs us:List Value} {r:Bool}:EqAt A s v u true→LtRow A s vs us r→LtRow A s (v::vs) (u::us) r
 | diff {v u:Value} {vs us:List Value} {r:Bool}:EqAt A s v u false→(∀ (prog:Program) (w:World) (E:Value→Shared→Prop) (Q:Value→Shared→Prop),Q (.bool r) s→wpAny (model prog w) A (richCompare .Lt v u) Q E s)→vs.length=us.length→LtRow A s (v::vs) (u::us) r
theorem LtRow.len {A:Around} {s:Shared} {vs us:List Value} {r:Bool} (h:LtRow A s vs us r):vs.length=us.length:=by
 induction h with
 | nil=>rfl
 | same _ _ ih=>simp [ih]
 | diff _ _ e=>simp [e]
theorem tuple_lt_row (l b:Addr) (items items2:Array Value) (n n2:Nat) (dd dd2:Option Addr) (sl sl2:Array (Option Value)) (r:Bool) :
  Meets (Builtin.«tuple.__lt__» ⟨[.ref l,.ref b],[]⟩)
   (fun A R s=>s.heap.get? l=some { cls:=.type "tuple",dict:=dd,data:=.seq items n,slots:=sl }∧s.heap.get? b=some { cls:=.type "tuple",dict:=dd2,data:=.seq items2 n2,slots:=sl2 } ∧
    LtRow A.in1 s items.toList items2.toList r∧R (.ok (.ret (.bool r))) s) :=
 .of_wp fun prog w A R s h=>by
  obtain ⟨hp,g,d,tk,os⟩:=s; obtain ⟨hl,hb,hrow,h⟩:=h
  have f2:=AutoSeq1.sub_tuple_tuple
  have hz0:items.size=items2.size:=by have:=hrow.len; simpa using this
  wp_walk using wpAny_loadPart' hl,wpAny_loadPart' hb,wpAny_forIn_list _ (fun rest b s'=>b.1=none∧s'=⟨hp,g,d,tk,os⟩∧∃ (vs ws:List Value),rest=vs.zip ws ∧
   LtRow A.in1 ⟨hp,g,d,tk,os⟩ vs ws r) _
  case turn =>
   rintro ⟨y,x⟩ rest b s' ⟨hb',rfl,vs,ws,hz,hrow'⟩
   cases hrow' with
   | nil=>rw [List.zip_nil_left] at hz; cases hz
   | same he hr =>
    rw [List.zip_cons_cons] at hz
    injection hz with hyx hrest
    injection hyx with hy hx
    subst hy hx
    refine wpAny_bind (he prog w _ _ ?_)
    wp_walk
    exact ⟨rfl,rfl,_,_,hrest,hr⟩
   | diff he hri hlen =>
    rw [List.zip_cons_cons] at hz
    injection hz with hyx hrest
    injection hyx with hy hx
    subst hy hx
    refine wpAny_bind (he prog w _ _ ?_)
    have hri:=hri prog w
    wp_walk using hri
    exact ⟨_,rfl,by simpa using h⟩
  case fin =>
   rintro ⟨b1,b2⟩ s' ⟨hb',rfl,vs,ws,hz,hrow'⟩
   simp only at hb'
   subst hb'
   have hv:r=false:=by
    cases hrow' with
    | nil=>rfl
    | same=>rw [List.zip_cons_cons] at hz; cases hz
    | diff=>rw [List.zip_cons_cons] at hz; cases hz
   rw [hv] at h
   wp_walk
   refine ⟨_,rfl,?_⟩
   have hs:Builtin.Tuple.tupleCompareSizes .Lt items.size items2.size=.bool false:=by
    simp [Builtin.Tuple.tupleCompareSizes,hz0]
   rw [hs]
   exact h
  case h =>
   exact ⟨rfl,rfl,items.toList,items2.toList,rfl,hrow⟩
theorem lt_tupRow {prog:Program} {w:World} {A:Around} {E:Value→Shared→Prop} {s:Shared} {l b:Addr} {items items2:Array Value} {r:Bool} {Q:Value→Shared→Prop} (hl:IsTup s.heap l items) (hb:IsTup s.heap b items2)
  (hu:A.units < cLine) (hrow:∀ A':Around,A'.units≤A.units + 4→LtRow A' s items.toList items2.toList r) (h:Q (.bool r) s):wpAny (model prog w) A (compareOp .Lt (.ref l) (.ref b)) Q E s:=by
 obtain ⟨⟨cls,dd,data,sl⟩,ho,hc,n,hd⟩:=id hl
 obtain ⟨⟨cls2,dd2,data2,sl2⟩,ho2,hc2,n2,hd2⟩:=id hb
 simp only at hc hd hc2 hd2
 subst hc hd hc2 hd2
 refine richCompare_meets_room (op:=.Lt) ⟨_,ho,rfl⟩ ⟨_,ho2,rfl⟩ PySem.F.slot_tuple_lt PySem.F.entry_tuple_lt (PySem.F.args_tuple_lt_2 _ _) (tuple_lt_row l b items items2 n n2 dd dd2 sl sl2 r)
  ⟨ho,ho2,hrow _ ?_,show Value.bool r≠Value.notImplemented∧Q (.bool r) s from ⟨(fun x=>nomatch x),h⟩⟩ hu
 show A.units + 1≤A.units + 4
 omega
end HT
end
section
namespace Rv
open PySem PySem.Spec PyProof.Rows L2
def natsV (l:List Nat):List V:=l.map fun (n:Nat)=>V.int (n:Int)
def natsI (l:List Nat):List Int:=l.map fun (n:Nat)=>(n:Int)
theorem natsV_eq (l:List Nat):natsV l=(natsI l).map V.int:=by unfold natsV natsI; rw [List.map_map]; rfl
theorem lex_py:∀ a b:List Nat,HT.lexLt (natsI a) (natsI b)=Rc.pyLt a b
 | [],[]=>rfl
 | [],_::_=>rfl
 | _::_,[]=>rfl
 | x::a,y::b=>by
  show (if (x:Int)=(y:Int) then HT.lexLt (natsI a) (natsI b) else decide ((x:Int) < (y:Int)))=(decide (x < y) || (!decide (y < x) && Rc.pyLt a b))
  rw [lex_py a b]
  by_cases h:x=y
  ·subst h; simp
  ·rw [if_neg (by omega)]
   by_cases h2:x < y
   ·simp [h2]
   ·have h3:y < x:=by omega
    simp [h2,h3]
def ScoreAt (H:Hp) (p:Addr) (s:Rc.Score):Prop:=∃ x y,H p=some (.tup [.int (s.total:Int),.ref x,.ref y])∧H x=some (.lst (natsV s.best))∧H y=some (.lst (natsV s.back))
def dNats (l:List Nat):PyData:=.list (l.map fun (n:Nat)=>PyData.int (n:Int))
def dScore (s:Rc.Score):PyData:=.tuple [.int (s.total:Int),dNats s.best,dNats s.back]
theorem dp_nats {K:PySem.W.Frag} {H:Hp}:∀ l:List Nat,DpAll K H (natsV l) (l.map fun (n:Nat)=>PyData.int (n:Int))
 | []=>.nil
 | n::l=>.cons (.int _) (dp_nats l)
theorem dp_score {K:PySem.W.Frag} {H:Hp} {p:Addr} {s:Rc.Score} (h:ScoreAt H p s):Dp K H (.ref p) (dScore s):=by
 obtain ⟨x,y,h1,h2,h3⟩:=h
 exact .tup (SqT.of h1) (.cons (.int _) (.cons (.lst (SqL.of h2) (dp_nats _)) (.cons (.lst (SqL.of h3) (dp_nats _)) .nil)))
theorem eqvAll_nats:∀ a b:List Nat,PyData.eqvAll (a.map fun (n:Nat)=>PyData.int (n:Int)) (b.map fun (n:Nat)=>PyData.int (n:Int))=decide (a=b)
 | [],[]=>by simp [PyData.eqvAll]
 | [],_::_=>by simp [PyData.eqvAll]
 | _::_,[]=>by simp [PyData.eqvAll]
 | x::a,y::b=>by
  rw [List.map_cons,List.map_cons,PyData.eqvAll,eqvAll_nats a b]
  by_cases h:x=y
  ·subst h
   by_cases h2:a=b <;> simp [PyData.eqv,h2]
  ·have:¬ (x:Int)=(y:Int):=by omega
   simp [PyData.eqv,h,this]
theorem eqv_nats (a b:List Nat):PyData.eqv (dNats a) (dNats b)=decide (a=b):=by
 unfold dNats
 rw [PyData.eqv,eqvAll_nats]
theorem eqv_score (a b:Rc.Score):PyData.eqv (dScore a) (dScore b)=decide (a=b):=by
 unfold dScore
 rw [PyData.eqv,PyData.eqvAll,PyData.eqvAll,PyData.eqvAll,PyData.eqvAll,eqv_nats,eqv_nats]
 obtain ⟨t1,b1,k1⟩:=a
 obtain ⟨t2,b2,k2⟩:=b
 simp only [PyData.eqv,Rc.Score.mk.injEq]
 by_cases h1:t1=t2
 ·by_cases h2:b1=b2
  ·by_cases h3:k1=k2 <;> simp [h1,h2,h3]
  ·simp [h2]
 ·have:¬ (t1:Int)=(t2:Int):=by omega
  simp [h1,this]
theorem can_nats (l:List Nat):(dNats l).canLay0=true:=by
 unfold dNats
 show PyData.canLayAll0 _=true
 induction l with
 | nil=>rfl
 | cons n l ih=>rw [List.map_cons,PyData.canLayAll0,ih]; rfl
theorem can_score (s:Rc.Score):(dScore s).canLay0=true:=by
 show PyData.canLayAll0 [PyData.int (s.total:Int),dNats s.best,dNats s.back]=true
 rw [PyData.canLayAll0,PyData.canLayAll0,PyData.canLayAll0,can_nats,can_nats]
 rfl
theorem depth_all:∀ l:List Nat,PyData.depthAll (l.map fun (n:Nat)=>PyData.int (n:Int))≤1
 | []=>by simp [PyData.depthAll]
 | n::l=>by
  rw [List.map_cons,PyData.depthAll]
  have:=depth_all l
  simp [PyData.depth]
  omega
theorem depth_nats (l:List Nat):(dNats l).depth≤2:=by
 unfold dNats
 rw [PyData.depth]
 have:=depth_all l
 omega
theorem depth_score (s:Rc.Score):(dScore s).depth≤3:=by
 unfold dScore
 rw [PyData.depth,PyData.depthAll,PyData.depthAll,PyData.depthAll]
 have h1:=depth_nats s.best
 have h2:=depth_nats s.back
 simp [PyData.depth,PyData.depthAll]
 omega
section
variable {X:Cx} {pins:List (Addr×Obj)} {σ:L2.St} {H:Hp} {s:Shared}
theorem eqAt_nats {A:Around} {x y:Addr} {a b:List Nat} (I:Inv X pins σ H s) (hx:H x=some (.lst (natsV a))) (hy:H y=some (.lst (natsV b))) (hu:A.units + 64 < cLine):SeqAt.EqAt A s (.ref x) (.ref y) (decide (a=b)):=by
 obtain ⟨as,r1⟩:=Dp.reads I (dNats a) (.ref x) (.ref x) (.lst (SqL.of hx) (dp_nats _)) rfl
 obtain ⟨bs,r2⟩:=Dp.reads I (dNats b) (.ref y) (.ref y) (.lst (SqL.of hy) (dp_nats _)) rfl
 rw [←eqv_nats]
 refine SeqAt.eqAt_reads _ _ A s _ _ _ _ r1 r2 (can_nats _) (can_nats _) ?_
 have:=depth_nats a
 omega
theorem eqAt_score {A:Around} {p q:Addr} {a b:Rc.Score} (I:Inv X pins σ H s) (hp:ScoreAt H p a) (hq:ScoreAt H q b) (hu:A.units + 64 < cLine):SeqAt.EqAt A s (.ref p) (.ref q) (decide (a=b)):=by
 obtain ⟨as,r1⟩:=Dp.reads I (dScore a) (.ref p) (.ref p) (dp_score hp) rfl
 obtain ⟨bs,r2⟩:=Dp.reads I (dScore b) (.ref q) (.ref q) (dp_score hq) rfl
 rw [←eqv_score]
 refine SeqAt.eqAt_reads _ _ A s _ _ _ _ r1 r2 (can_score _) (can_score _) ?_
 have:=depth_score a
 omega
theorem lt_nats {A:Around} {E:Value→Shared→Prop} {x y:Addr} {a b:List Nat} {Q:Value→Shared→Prop} (I:Inv X pins σ H s) (hx:H x=some (.lst (natsV a))) (hy:H y=some (.lst (natsV b))) (hu:A.units < cLine)
  (prog:Program) (w:World) (q:Q (.bool (Rc.pyLt a b)) s):wpAny (model prog w) A (compareOp .Lt (.ref x) (.ref y)) Q E s:=by
 rw [natsV_eq] at hx hy
 obtain ⟨its,r1,p1,_⟩:=I.list (SqL.of hx)
 obtain ⟨its2,r2,p2,_⟩:=I.list (SqL.of hy)
 refine HT.lt_listInts p1.isList p2.isList (by simpa using r1.ints) (by simpa using r2.ints) hu ?_
 rw [lex_py]
 exact q
theorem op_ltL (hu:X.A.units < cLine):OpR X (compareOp .Lt) (fun x y H Q=>∃ p q a b,x=.ref p∧y=.ref q∧H p=some (.lst (natsV a))∧H q=some (.lst (natsV b))∧Q (.bl (Rc.pyLt a b)) H):=by
 intro pins s σ H x y v u Q I rx ry h
 obtain ⟨p,q,a,b,rfl,rfl,h1,h2,k⟩:=h
 cases rx
 cases ry
 exact lt_nats I h1 h2 hu _ _ ⟨.bl _,H,I,rfl,k⟩
theorem row_score {A:Around} {p q:Addr} {a b:Rc.Score} {v1 v2:List Value} (I:Inv X pins σ H s) (hp:ScoreAt H p a) (hq:ScoreAt H q b) (hu:A.units + 64 < cLine) (t1:IsTup s.heap p v1.toArray) (t2:IsTup s.heap q v2.toArray):HT.LtRow A s v1 v2 (Rc.scoreLt a b):=by
 obtain ⟨x,y,h1,h2,h3⟩:=hp
 obtain ⟨x',y',h1',h2',h3'⟩:=hq
 have same:∀ {r:Addr} {vs ws:List Value},IsTup s.heap r vs.toArray→IsTup s.heap r ws.toArray→vs=ws:=by
  intro r vs ws ⟨o,e,_,n,d⟩ ⟨o',e',_,n',d'⟩
  rw [e] at e'; cases e'
  rw [d] at d'
  injection d' with d1 _
  simpa using congrArg Array.toList d1
 obtain ⟨its,r,pt,_⟩:=I.tuple (SqT.of h1)
 obtain ⟨its',r',pt',_⟩:=I.tuple (SqT.of h1')
 have e1:=same t1 pt
 have e2:=same t2 pt'
 subst e1 e2
 cases r with
 | cons ra r =>
  cases r with
  | cons rb r =>
   cases r with
   | cons rc r =>
    cases r
    cases r' with
    | cons ra' r' =>
     cases r' with
     | cons rb' r' =>
      cases r' with
      | cons rc' r' =>
       cases r'
       obtain ⟨t,rfl⟩:=ra
       obtain ⟨t',rfl⟩:=ra'
       cases rb
       cases rc
       cases rb'
       cases rc'
       have e0:=SeqAt.EqAt.int_int (A:=A) (s:=s) (a.total:Int) t (b.total:Int) t'
       unfold Rc.scoreLt
       by_cases q1:a.total=b.total
       ·rw [if_pos q1]
        rw [show (((a.total:Nat):Int)==((b.total:Nat):Int))=true by rw [q1]; simp] at e0
        refine .same e0 ?_
        have e1:=eqAt_nats (A:=A) I h2 h2' hu
        by_cases q2:a.best=b.best
        ·rw [if_pos q2]
         rw [decide_eq_true q2] at e1
         refine .same e1 ?_
         have e2:=eqAt_nats (A:=A) I h3 h3' hu
         by_cases q3:a.back=b.back
         ·rw [decide_eq_true q3] at e2
          rw [q3,Rc.pyLt_irr]
          exact .same e2 .nil
         ·rw [decide_eq_false q3] at e2
          exact .diff e2 (fun prog w E Q hq=>lt_nats (E:=E) I h3 h3' (by omega) prog w hq) rfl
        ·rw [if_neg q2]
         rw [decide_eq_false q2] at e1
         exact .diff e1 (fun prog w E Q hq=>lt_nats (E:=E) I h2 h2' (by omega) prog w hq) rfl
       ·rw [if_neg q1]
        rw [show (((a.total:Nat):Int)==((b.total:Nat):Int))=false by simp; omega] at e0
        refine .diff e0 (fun prog w E Q hq=>HT.rcLt_int A s _ t _ t' prog w E Q ?_) rfl
        have:decide (((a.total:Nat):Int) < ((b.total:Nat):Int))=decide (a.total < b.total):=by congr 1; apply propext; omega
        rw [this]
        exact hq
theorem op_ltS (hu:X.A.units + 70 < cLine):OpR X (compareOp .Lt) (fun x y H Q=>∃ p q a b,x=.ref p∧y=.ref q∧ScoreAt H p a∧ScoreAt H q b∧Q (.bl (Rc.scoreLt a b)) H):=by
 intro pins s σ H x y v u Q I rx ry h
 obtain ⟨p,q,a,b,rfl,rfl,h1,h2,k⟩:=h
 cases rx
 cases ry
 obtain ⟨x1,y1,g1,_⟩:=id h1
 obtain ⟨x2,y2,g2,_⟩:=id h2
 obtain ⟨its,r,pt,_⟩:=I.tuple (SqT.of g1)
 obtain ⟨its',r',pt',_⟩:=I.tuple (SqT.of g2)
 refine HT.lt_tupRow pt pt' (by omega) (fun A' hA=>?_) ⟨.bl _,H,I,rfl,k⟩
 simpa using row_score I h1 h2 (by omega) pt pt'
theorem natsV_inj {a b:List Nat} (h:natsV a=natsV b):a=b:=by
 induction a generalizing b with
 | nil=>cases b with
  | nil=>rfl
  | cons y b=>cases h
 | cons x a ih=>cases b with
  | nil=>cases h
  | cons y b =>
   have h':V.int (x:Int)::natsV a=V.int (y:Int)::natsV b:=h
   injection h' with h1 h2
   injection h1 with h1
   rw [ih h2,show x=y by omega]
theorem ScoreAt.inj {p:Addr} {a b:Rc.Score} (h:ScoreAt H p a) (h':ScoreAt H p b):a=b:=by
 obtain ⟨x,y,h1,h2,h3⟩:=h
 obtain ⟨x',y',h1',h2',h3'⟩:=h'
 rw [h1] at h1'
 cases a; cases b
 simp only [Option.some.injEq,HO.tup.injEq,List.cons.injEq,V.int.injEq,V.ref.injEq,and_true] at h1'
 obtain ⟨e1,rfl,rfl⟩:=h1'
 rw [h2] at h2'
 rw [h3] at h3'
 simp only [Option.some.injEq,HO.lst.injEq] at h2' h3'
 rw [natsV_inj h2',natsV_inj h3',show _=_ from Int.ofNat.inj e1]
theorem vals_refs:∀ {ps:List Addr} {us:List Value},Vals (ps.map V.ref) us→us=ps.map Value.ref
 | [],_,h=>by cases h; rfl
 | p::ps,_,h=>by
  cases h with
  | cons r t =>
   cases r
   rw [vals_refs t]
   rfl
def ScoresAt (H:Hp) (l:Addr) (ss:List Rc.Score):Prop:=∃ ps:List Addr,H l=some (.lst (ps.map V.ref))∧ps.length=ss.length∧∀ (i:Nat) (p:Addr) (b:Rc.Score),ps[i]?=some p→ss[i]?=some b→ScoreAt H p b
theorem mt_countS (hu:X.A.units + 70 < cLine):MtR X "list.count" (fun x xs H Q=>∃ (l q:Addr) (a:Rc.Score) (ss:List Rc.Score),x=.ref l∧xs=[.ref q]∧ScoresAt H l ss∧ScoreAt H q a ∧
  Q (.int (((ss.filter fun b=>decide (b=a)).length:Nat):Int)) H):=by
 classical
 intro pins s σ H x xs v us Q I rx rxs h
 obtain ⟨l,q,a,ss,rfl,rfl,⟨ps,hl,hlen,hps⟩,ha,k⟩:=h
 cases rx
 obtain ⟨u,rfl,ru⟩:=Vals.one rxs
 cases ru
 obtain ⟨its,rv,⟨⟨cls,dd,data,sl⟩,n,ho,hc,hdn,hd⟩,hz⟩:=I.list (SqL.of (K:=X.K) hl)
 simp only at hc hd
 subst hc hd
 have ei:=vals_refs rv
 subst ei
 have same:∀ (i:Nat) (p:Addr) (b:Rc.Score),ps[i]?=some p→ss[i]?=some b→decide (ScoreAt H p a)=decide (b=a):=fun i p b e1 e2=>by
  have hb:=hps i p b e1 e2
  by_cases q:b=a
  ·rw [decide_eq_true q,decide_eq_true (q ▸ hb)]
  ·rw [decide_eq_false q,decide_eq_false fun z=>q (hb.inj z)]
 let e:Value→Bool:=fun v=>match v with | .ref p=>decide (ScoreAt H p a) | _=>false
 refine call_meets PySem.F.slot_list_count ⟨_,ho,rfl⟩ PySem.F.entry_list_count (PySem.F.args_list_count_2 _ _) (SeqAt.list_countAt l (ps.map Value.ref).toArray n dd sl (.ref q) e) ⟨ho,fun y hy=>?_,?_⟩
 ·have hy':y∈ps.map Value.ref:=by simpa using hy
  obtain ⟨p,hp,rfl⟩:=List.mem_map.mp hy'
  obtain ⟨i,hi⟩:=List.getElem?_of_mem hp
  obtain ⟨b,hb⟩:∃ b,ss[i]?=some b:=⟨_,List.getElem?_eq_getElem (by rw [←hlen]; exact (List.getElem?_eq_some_iff.mp hi).1)⟩
  have e2:=eqAt_score (A:=X.A.in1) I (hps i p b hi hb) ha (by show X.A.units + 1 + 64 < cLine; omega)
  rw [←same i p b hi hb] at e2
  exact e2
 ·refine ⟨.int _,H,I.tok _,⟨s.toks,?_⟩,k⟩
  have cnt:∀ (ps:List Addr) (ss:List Rc.Score),ps.length=ss.length→(∀ (i:Nat) (p:Addr) (b:Rc.Score),ps[i]?=some p→ss[i]?=some b→decide (ScoreAt H p a)=decide (b=a))→(ps.map Value.ref).countP e=(ss.filter fun b=>decide (b=a)).length:=by
   intro ps
   induction ps with
   | nil=>intro ss hl _; rw [List.length_eq_zero_iff.mp hl.symm]; rfl
   | cons p ps ih =>
    intro ss hl hs
    cases ss with
    | nil=>cases hl
    | cons b ss =>
     rw [List.map_cons,List.countP_cons,ih ss (by simpa using hl) fun i p' b' e1 e2=>hs (i + 1) p' b' (by simpa using e1) (by simpa using e2),List.filter_cons]
     have h0:e (.ref p)=decide (b=a):=hs 0 p b rfl rfl
     rw [h0]
     split <;> simp
  show Value.int (((ps.map Value.ref).toArray.toList.countP e:Nat):Int) _=_
  rw [←cnt ps ss hlen same]
end
end Rv
end
section
namespace L2
open PySem PySem.Spec PyProof.Rows
open PySem.W (kla_fn kla_obj envX CodeHd tabObj)
structure LamScope (scope:Scope) (x fv:Str):Prop where
 kind:scope.kind=.function
 co:scope.isCoroutine=false
 gen:scope.isGenerator=false
 px:scope.names.lookup x=some .local
 pf:scope.names.lookup fv=some .free
 ne:x≠fv
 nocell:∀ y∈scope.names,y.2≠.cell
 free:∀ y∈scope.names,y.2=.free→y.1=fv
def cxLam (X:Cx) (A:Around) (x fv qual:Str) (scope:Scope) (f:Addr) (cd:Value) (c:Addr) (s:Shared) (H:Hp):Cx where
 prog:=X.prog
 w:=X.w
 K:=X.K
 mg:=X.mg
 base:=X.base
 A:=A.deeper (envX qual scope s.heap.objs.size f cd [(fv,c)])
 N:=[x,fv]
 s_0:=s
 H_0:=H
 env:=envX qual scope s.heap.objs.size f cd [(fv,c)]
 outer:=X.stack
 stack:=envX qual scope s.heap.objs.size f cd [(fv,c)]::X.stack
 ex:=[]
 calm:=true
 fn:=fun _=>false
 pn:=[]
 xe:=fun _ _=>False
theorem lk_one {fv x:Str} {c d:Addr} (h:([(fv,c)]:List (Str×Addr)).lookup x=some d):x=fv∧d=c:=by
 rw [List.lookup_cons] at h
 cases e:x==fv with
 | true=>rw [e] at h; exact ⟨eq_of_beq e,(Option.some.inj h).symm⟩
 | false=>rw [e] at h; cases h
section
variable {X:Cx} {pins:List (Addr×Obj)} {σ:St} {H:Hp} {s:Shared} {A:Around} {x fv qual name:Str} {params:Arguments} {body:Expr} {scope:Scope} {f c c':Addr} {pm ctv:Value} {y z:V} {u:Value} {t:TE} {Q:VK} {k:Nat}
theorem lam_run (I:Inv X pins σ H s) (hA:A.frames=X.A.frames) (hr:Room k A) (S:LamScope scope x fv) (hf:s.heap.get? f=some (kla_obj name qual params body scope [(fv,c)] pm c' ctv)) (hcd:s.heap.CodeRec (.ref c') qual)
  (hb:∀ v,bindArgs (kla_fn name qual params body scope [(fv,c)] pm (.ref c') ctv) ⟨[v],[]⟩=pure [(x,v)])
  (hc:∃ w,RelV z w∧s.heap.IsCell c (some w)) (hHc:H c=none) (ry:RelV y u)
  (hbody:PE (cxLam X A x fv qual scope f (.ref c') c s H) body t) (h:t [some y,some z] H Q) :
  wpAny (model X.prog X.w) A (call (.ref f) [u]) (EP X pins σ Q) (fun _ _=>False) s:=by
 obtain ⟨wz,rz,hcell⟩:=hc
 have e0:Env0 X.prog X.w X.K X.mg X.base A X.stack s H:=by
  have e:=I.env0
  exact ⟨hA.trans e.frames,e.mod,e.bs,e.bsz,e.funs,e.frf,e.hok,e.bare⟩
 refine wpAny_call (codeAny_mono (PySem.W.kla_callFunE (R:=CR CX0 X.stack X.prog X.w H s Q E0) hr.depth hf rfl S.co S.gen rfl hcd ?_) fun r s' hq=>?_)
 ·rw [hb]
  refine wpAny_pure (wpAny_newFunctionEnv S.nocell (fun q hq=>?_) (fun h1 hns hsb=>⟨(e0.mod.nolimit.keeps fun b o e=>(e0.bs b o e).1).fresh _ hsb,?_⟩) S.kind)
  ·rw [List.mem_singleton.mp hq]; exact S.px
  show codeAny _ _ (.expr body (envX qual scope s.heap.objs.size f (.ref c') [(fv,c)])) _ _
  have hk:∀ b o,s.heap.get? b=some o→h1.get? b=some o:=fun b o e=>hsb.extBut b o (Nat.ne_of_lt (Heap.lt_size e)) (Heap.get?_push_of_some _ e)
  have kind_fv:(envX qual scope s.heap.objs.size f (.ref c') [(fv,c)]).kindOf fv=some .free:=S.pf
  have kind_x:(envX qual scope s.heap.objs.size f (.ref c') [(fv,c)]).kindOf x=some .local:=S.px
  have ok:(cxLam X A x fv qual scope f (.ref c') c s H).Ok :=
   ⟨I.ok.mod,S.kind,rfl,rfl,Nat.le_refl _,fun a b d h1 h2=>(lk_one h1).1.trans (lk_one h2).1.symm,fun a ha=>by
     have hm:(a,NameKind.free)∈scope.names∨(a,NameKind.cell)∈scope.names:=by
      rcases ha with ha | ha
      ·exact .inr (PySem.mem_of_lookup ha)
      ·exact .inl (PySem.mem_of_lookup ha)
     rcases hm with hm | hm
     ·have ea:a=fv:=S.free _ hm rfl
      subst ea
      exact ⟨c,by show ([(a,c)]:List (Str×Addr)).lookup a=some c; rw [List.lookup_cons,beq_self_eq_true]⟩
     ·exact absurd rfl (S.nocell _ hm),
    fun a d hfn=>absurd (show false=true from hfn) Bool.false_ne_true,fun _=>hr.hd,Around.frames_deeper e0.frames,.inr ⟨rfl,rfl⟩,fun b hb=>absurd (show b∈([]:List Addr) from hb) (by simp),e0.bs,e0.bsz,
    fun b o _ hb=>absurd (show b∈([]:List Addr) from hb) (by simp),fun b hb=>absurd (show b∈([]:List Addr) from hb) (by simp),e0.funs,e0.frf⟩
  have J:Inv (cxLam X A x fv qual scope f (.ref c') c s H) [] [some y,some z] H { s with heap:=h1,toks:=s.toks + [(x,u)].length }:=by
   refine ⟨ok,rfl,e0.bare,Un.kept hk,⟨_,hns,fun i n v e1 e2 e3=>?_⟩,fun a d e=>?_,I.hok.fresh (Nat.le_refl _),fun a d e=>?_,fun p hp=>absurd (show p∈([]:List (Addr×Obj)) from hp) (by simp),I.hok.kept hk,rfl⟩
   ·match i,e1,e2 with
    | 0,e1,e2 =>
     have en:x=n:=Option.some.inj e1
     have ev:y=v:=Option.some.inj (Option.some.inj e2)
     subst en ev
     refine ⟨u,ry,.inl ⟨kind_x,?_⟩⟩
     show ([(x,u)].reverse.lookup x)=some u
     rw [List.reverse_singleton,List.lookup_cons,beq_self_eq_true]
    | 1,e1,e2 =>
     have en:fv=n:=Option.some.inj e1
     have ev:z=v:=Option.some.inj (Option.some.inj e2)
     subst en ev
     refine ⟨wz,rz,.inr ⟨.inr kind_fv,c,?_,?_⟩⟩
     ·show ([(fv,c)]:List (Str×Addr)).lookup fv=some c
      rw [List.lookup_cons,beq_self_eq_true]
     ·obtain ⟨o,e,d⟩:=hcell
      exact ⟨o,hk _ _ e,d⟩
    | i + 2,e1,_=>cases e1
   ·obtain ⟨_,rfl⟩:=lk_one e
    obtain ⟨o,e,d⟩:=hcell
    exact ⟨_,o,hk _ _ e,d⟩
   ·obtain ⟨_,rfl⟩:=lk_one e
    exact hHc
  refine PySem.W.kla_codeExpr (wpAny_mono (hbody [] _ _ H Q J h) (fun v s' hq=>?_) fun _ _ z=>False.elim z)
  obtain ⟨v',H',J',rv,q⟩:=hq
  exact ⟨v',H',J'.os,J'.bare,J'.base,J'.hok,rv,q⟩
 ·cases r with
  | error e=>exact hq
  | ok fl =>
   cases fl with
   | ret u'=>exact I.after hq
   | next=>exact False.elim hq
   | brk=>exact False.elim hq
   | cont=>exact False.elim hq
end
def CodeX (c:Addr) (qual:Str):HO:=.ext fun h=>h.CodeRec (.ref c) qual
def TabOk (H:Hp) (P:Addr) (pos:Pos) (qual:Str):Prop:=∃ ps:Array Value,H P=some (.tbl ps)∧TriplesOk ps.toList∧(codeAmong pos ps.toList=none∨∃ c,codeAmong pos ps.toList=some (.ref c)∧H c=some (CodeX c qual))
def BMain (mg:Str→Option Value) (base:Heap):Prop:=∃ bm ob,mg "__builtins__"=some (.ref bm)∧bm≠builtinsNs∧bm≠mainGlobals∧base.get? bm=some ob∧ob.cls=.type "module"∧ob.dict=some builtinsNs∧ob.data=.plain
theorem triples_snoc {l:List Value} {a b c:Value} (h:TriplesOk l) (ha:∃ i t,a=.int i t) (hb:∃ i t,b=.int i t):TriplesOk (l++[a,b,c]):=by
 obtain ⟨i,t,rfl⟩:=ha
 obtain ⟨j,u,rfl⟩:=hb
 fun_induction TriplesOk l with
 | case1=>exact True.intro
 | case2 _ _ _ _ _ rest ih=>exact ih h
 | case3 _ h1=>exact h.elim
theorem codeX_ok {P:Program} {w:World} {H:Hp} {h:Heap} {c:Addr} {qual:Str} (hc:h.CodeRec (.ref c) qual):ObjOk P w H h c (CodeX c qual):=by
 refine ⟨hc,?_,fun h1 h2 q k=>?_⟩
 ·obtain ⟨c',o,_,_,e,ho,_⟩:=hc
  cases e
  exact ⟨o,ho⟩
 ·obtain ⟨c',o,vs,t,e,ho,r⟩:=q
  cases e
  exact ⟨_,o,vs,t,rfl,k o ho,r⟩
theorem codeX_at {P:Program} {w:World} {H:Hp} {h:Heap} {c:Addr} {qual:Str} (ok:HOk P w H h) (e:H c=some (CodeX c qual)):h.CodeRec (.ref c) qual:=(show ObjOk P w H h c (CodeX c qual) from ok c _ e).1
structure Lam (H H':Hp) (P:Addr) (pos:Pos) (qual:Str):Prop where
 same:∀ b o,H b=some o→b≠P→H' b=some o
 tab:TabOk H' P pos qual
 fresh:∀ b,H b=none→H' b=none∨∃ q,H' b=some (CodeX b q)
section
variable {X:Cx} {pins:List (Addr×Obj)} {σ:St} {H:Hp} {s:Shared} {A:Around} {x fv qual:Str} {params:Arguments} {body:Expr} {scope:Scope} {c P cell:Addr} {pos:Pos}
theorem lam_make {Q:Value→Shared→Prop} {E:Value→Shared→Prop} (I:Inv X pins σ H s) (T:TabOk H P pos (X.env.qual++"<lambda>")) (hcode:X.env.code=.ref c) (hd:PySem.W.codeHdIn X.K c P=true) (B:BMain X.mg X.base)
  (hcl:closureFor scope X.env=pure [(fv,cell)]) (hdef:defaultsOf params X.env=([],[]))
  (h:∀ (f c':Addr) (ctv:Value) (H':Hp) (s':Shared),Inv X pins σ H' s'→Lam H H' P pos (X.env.qual++"<lambda>")→s.heap.objs.size≤f→H' f=none →
   s'.heap.get? f=some (kla_obj "<lambda>" (X.env.qual++"<lambda>") params body scope [(fv,cell)] ((X.mg "__name__").getD .none) c' ctv)→s'.heap.CodeRec (.ref c') (X.env.qual++"<lambda>")→H' c'=some (CodeX c' (X.env.qual++"<lambda>"))→Q (.ref f) s') :
  wpAny (model X.prog X.w) A (eval (.Lambda params body scope pos) X.env) Q E s:=by
 obtain ⟨ps,hP,ht,hps⟩:=T
 have hPh:s.heap.get? P=some (tabObj ps):=I.hok P _ hP
 have C:CodeHd s.heap c P:=PySem.W.codeHd_of_K I.kIn hd
 have hg:s.heap.Ns mainGlobals X.mg:=I.mod.glob.keeps I.bk
 obtain ⟨bm,ob,b1,b2,b3,b4,b5,b6,b7⟩:=B
 have nbm:=I.bs bm ob b4
 have hbP:bm≠P:=fun q=>by rw [q,hP] at nbm; cases nbm.2
 have BA:s.heap.BuiltinsAt X.mg P:=⟨bm,ob,b1,b2,b3,hbP,nbm.1,b5,b6,b7⟩
 have hgl:X.env.globals=mainGlobals:=I.ok.glob
 refine PySem.W.kla_eval hdef ?_
 rcases hps with hn | ⟨c',hc',hx⟩
 ·have hgP:mainGlobals≠P:=fun q=>by
   obtain ⟨o,es,ep,e,hd',_⟩:=hg
   rw [q,hPh] at e
   cases e
   cases hd'
  refine PySem.W.kla_makeFunction (mg:=X.mg) hcl hgl hg hcode C hPh ht hn hgP BA fun c' ctv h' tk hx hge hlt hrec htb=>?_
  have nP:∀ {b:Addr},H b=none→b≠P:=fun {b} n q=>by rw [q,hP] at n; cases n
  have lt:∀ {b:Addr} {o:Obj},s.heap.get? b=some o→b≠c':=fun {b o} e=>Nat.ne_of_lt (Nat.lt_of_lt_of_le (Heap.lt_size e) hge)
  have hc'n:H c'=none:=I.hok.fresh hge
  have hc'P:c'≠P:=nP hc'n
  have old:∀ b o,b≠P→s.heap.get? b=some o→(h'.push (kla_obj "<lambda>" (X.env.qual++"<lambda>") params body scope [(fv,cell)] ((X.mg "__name__").getD .none) c' ctv)).get? b=some o:=fun b o hb e=>Heap.get?_push_of_some _ (hx b o hb e)
  have hrec':=hrec.push (kla_obj "<lambda>" (X.env.qual++"<lambda>") params body scope [(fv,cell)] ((X.mg "__name__").getD .none) c' ctv)
  let H':Hp:=upd (upd H P (.tbl (ps++#[rawInt pos.line,rawInt pos.col,.ref c']))) c' (CodeX c' (X.env.qual++"<lambda>"))
  have hH1:∀ {b:Addr},b≠P→b≠c'→H' b=H b:=fun {b} h1 h2=>by show upd (upd H P _) c' _ b=H b; rw [upd_ne h2,upd_ne h1]
  have hHP:H' P=some (.tbl (ps++#[rawInt pos.line,rawInt pos.col,.ref c'])):=by show upd (upd H P _) c' _ P=_; rw [upd_ne (Ne.symm hc'P),upd_same]
  have hHc:H' c'=some (CodeX c' (X.env.qual++"<lambda>")):=upd_same
  have ne_c:∀ {b:Addr} {o:HO},H b=some o→b≠c':=fun {b o} e q=>by rw [q,hc'n] at e; cases e
  have hok':HOk X.prog X.w H' (h'.push (kla_obj "<lambda>" (X.env.qual++"<lambda>") params body scope [(fv,cell)] ((X.mg "__name__").getD .none) c' ctv)):=fun b o e=>by
   by_cases q1:b=P
   ·subst q1
    rw [hHP] at e
    cases e
    exact Heap.get?_push_of_some _ htb
   ·by_cases q2:b=c'
    ·subst q2
     rw [hHc] at e
     cases e
     exact codeX_ok hrec'
    ·rw [hH1 q1 q2] at e
     refine (I.hok b o e).stay (fun d v hd' q=>old d v ?_ q) (fun d q=>?_) fun d xs q=>?_
     ·rintro rfl
      rcases hd' with z | z
      ·exact q1 z.symm
      ·rw [hP] at z; cases z
     ·rw [hH1 (fun z=>by rw [z,hP] at q; cases q) (ne_c q)]; exact q
     ·rw [hH1 (fun z=>by rw [z,hP] at q; cases q) (ne_c q)]; exact q
  have J:Inv X pins σ H' { s with heap:=h'.push (kla_obj "<lambda>" (X.env.qual++"<lambda>") params body scope [(fv,cell)] ((X.mg "__name__").getD .none) c' ctv),toks:=tk }:=by
   refine I.step (g':=s.gens) (d':=s.drawn) (ch:=[]) (fun _ z=>nomatch z) (fun b o _ _ _ e n=>old b o (nP n) e) (fun b o _ _ _ e n=>⟨o.slots,old b o (nP n) e⟩) (fun b o _ e n=>by rw [hH1 (nP n) (lt e)]; exact n) (fun b o _ e=>?_)
    (fun b xs e=>by rw [hH1 (fun z=>by rw [z,hP] at e; cases e) (ne_c e)]; exact e) (fun b o u e=>by rw [hH1 (fun z=>by rw [z,hP] at e; cases e) (ne_c e)]; exact e) (fun b qs e=>?_) (fun m hm=>?_) hok' I.bare
   ·by_cases q:b=P
    ·subst q; exact ⟨_,Heap.get?_push_of_some _ htb⟩
    ·exact ⟨o,old b o q e⟩
   ·by_cases q:b=P
    ·subst q
     rw [hP] at e
     cases e
     exact ⟨_,hHP⟩
    ·exact ⟨#[],by rw [hH1 q (ne_c e),e]; simp⟩
   ·obtain ⟨o,es,ep,ho,r⟩:=hm
    exact ⟨o,es,ep,old _ o (nP I.free) ho,r⟩
  have hfn:H' h'.objs.size=none:=by
   have e:s.heap.objs.size≤h'.objs.size:=Nat.le_of_lt (Nat.lt_of_le_of_lt hge hlt)
   rw [hH1 (nP (I.hok.fresh e)) (Nat.ne_of_gt hlt)]
   exact I.hok.fresh e
  refine h h'.objs.size c' ctv H' _ J ⟨fun b o e hb=>by rw [hH1 hb (ne_c e)]; exact e,⟨_,hHP,?_,.inr ⟨c',?_,hHc⟩⟩,fun b n=>?_⟩ (Nat.le_of_lt (Nat.lt_of_le_of_lt hge hlt)) hfn (Heap.get?_push_size _ rfl) hrec' hHc
  ·rw [Array.toList_append]
   exact triples_snoc ht ⟨_,_,rfl⟩ ⟨_,_,rfl⟩
  ·simpa using codeAmong_snoc (c:=.ref c') ps.toList ht hn
  ·by_cases q:b=c'
   ·subst q; exact .inr ⟨_,hHc⟩
   ·exact .inl (by rw [hH1 (nP n) q]; exact n)
 ·refine PySem.W.kla_makeFunctionHit (mg:=X.mg) hcl hgl hg hcode C hPh ht hc' BA fun ctv h' tk hk hsz=>?_
  have keep:∀ b o,s.heap.get? b=some o→(h'.push { cls:=.type "function",data:=.func (kla_fn "<lambda>" (X.env.qual++"<lambda>") params body scope [(fv,cell)] ((X.mg "__name__").getD .none) (.ref c') ctv) }).get? b=some o:=fun b o e=>Heap.get?_push_of_some _ (hk b o e)
  have J:=I.kept (t':=tk) keep
  exact h h'.objs.size c' ctv H _ J ⟨fun b o e _=>e,⟨ps,hP,ht,.inr ⟨c',hc',hx⟩⟩,fun b n=>.inl n⟩ hsz (I.hok.fresh hsz) (Heap.get?_push_size _ rfl) (codeX_at J.hok hx) hx
end
end L2
end
section
namespace L2
open PySem PySem.Spec PyProof.Rows
section
variable {X:Cx} {pins:List (Addr×Obj)} {σ:L2.St} {H:Hp} {s:Shared} {A:Around} {E:Value→Shared→Prop} {D f kS:Addr} {fo:Obj} {vs:List Value} {W:Array Value→Prop} {Ky:Nat→Value→Prop}
def SortsAt (X:Cx) (A:Around) (E:Value→Shared→Prop) (s:Shared) (kd:SortKind) (a₀:Array Keyed) (W:Array Value→Prop):Prop :=
 wpS (model X.prog X.w) A E s sortRuns' (fun _ st'=>(arrOf st').size=a₀.size∧failedOf st'=none∧W ((arrOf st').map (·.2))) (SortSt.mk' kd a₀ #[] 7 none)
theorem sorts_of {κ:PyProof.Rows.KeyKind} {kd:SortKind} {a₀:Array Keyed} {W:Array Value→Prop} (hO:G.LtAt X.prog X.w s κ kd) (h0:PyProof.Rows.KeysOf κ a₀) (h2:2≤a₀.size)
  (hW:∀ arr:Array Keyed,arr.Perm a₀→SortedToK κ arr arr.size→Stable κ arr a₀→W (arr.map (·.2))):SortsAt X A E s kd a₀ W :=
 G.wpS_sortRunsSt (κ:=κ) (kd:=kd) (a₀:=a₀) (st:=SortSt.mk' kd a₀ #[] 7 none) hO h0 ⟨Array.Perm.refl _,rfl,rfl⟩ rfl (Stable.refl _) h2 fun st' a1 a2 a3 a4=>⟨a1.size_eq,a2,hW _ a1 (by rw [a1.size_eq]; exact a3) a4⟩
theorem Inv.track {o:HO} {t':Nat} (I:Inv X pins σ H s) (fD:FpOk X pins H D) (new:ObjOk X.prog X.w (upd H D o) s.heap D o):Inv X pins σ (upd H D o) { s with toks:=t' }:=by
 obtain ⟨f0,f1,f2,f3,f4,f5⟩:=fD
 have ne:∀ {b:Addr} {u:HO},H b=some u→b≠D:=fun {b u} e q=>by rw [q,f0] at e; cases e
 refine I.step (h':=s.heap) (g':=s.gens) (d':=s.drawn) (ch:=[D]) (fun b hb=>?_) (fun b o _ _ _ e _=>e) (fun b o _ _ _ e _=>⟨o.slots,e⟩) (fun b o hb e n=>by rw [upd_ne (fun q=>hb (by simp [q]))]; exact n) (fun b o _ e=>⟨o,e⟩)
  (fun b xs e=>by rw [upd_ne (ne e)]; exact e) (fun b o u e=>by rw [upd_ne (ne e)]; exact e) (fun b ps e=>⟨#[],by rw [upd_ne (ne e),e]; simp⟩) (fun m hm=>hm) (fun b u e=>?_) I.bare
 ·rw [List.mem_singleton.mp hb]; exact ⟨f3,f1,f4,f5⟩
 ·by_cases q:b=D
  ·subst q; rw [upd_same] at e; cases e; exact new
  ·rw [upd_ne q] at e
   exact (I.hok b u e).stay (fun _ _ _ z=>z) (fun c z=>by rw [upd_ne (ne z)]; exact z) fun c xs z=>by rw [upd_ne (ne z)]; exact z
theorem Inv.pin3 {ps:List (Addr×Obj)} (I:Inv X pins σ H s) (h:∀ p∈ps,s.heap.get? p.1=some p.2∧FpOk X pins H p.1∧∀ v,p.2.data≠.cell v):Inv X (ps++pins) σ H s :=
 I.pins_of fun p hp=>by
  rcases List.mem_append.mp hp with hp | hp
  ·obtain ⟨h1,⟨f0,f1,f2,f3,f4,f5⟩,h3⟩:=h p hp
   exact ⟨h1,f0,f1,f2,h3⟩
  ·exact I.pin p (List.mem_append_right _ hp)
theorem Inv.unpin {ps:List (Addr×Obj)} (I:Inv X (ps++pins) σ H s):Inv X pins σ H s :=
 I.pins_of fun p hp=>I.pin p (List.mem_append_right _ (List.mem_append_right _ hp))
theorem Inv.pinned_at {ps:List (Addr×Obj)} {p:Addr×Obj} (I:Inv X ps σ H s) (hp:p∈ps):s.heap.get? p.1=some p.2:=(I.pin p (List.mem_append_right _ hp)).1
theorem Inv.upd1 {h':Heap} {t':Nat} (I:Inv X pins σ H s) (hs:Heap.SameBut D s.heap h') (fD:FpOk X pins H D):Inv X pins σ H { s with heap:=h',toks:=t' }:=by
 obtain ⟨f0,f1,f2,f3,f4,f5⟩:=fD
 exact I.turned (fun b o hb e=>(hs.2 b hb).trans e) f0 f1 f3 f4 f5
theorem seq_nocell (c:String) (xs:Array Value) (n:Nat) (v:Option Value):(seqObj c xs n).data≠.cell v:=fun z=>by
 have z':Data.seq xs n=Data.cell v:=z
 cases z'
theorem keyed_tail {P':PySem.Fin→Shared→Prop} {st:SortSt} {keys:List Value} {e e1:Nat} (I:Inv X pins σ H s) (hD:s.heap.get? D=some (seqObj "list" #[] e1)) (fD:FpOk X pins H D) (hk:s.heap.get? kS=some (seqObj "list" keys.toArray e)) (fk:FpOk X pins H kS) (hne:kS≠D)
  (hz:keys.length≤1000) (hsz:(arrOf st).size≤1000) (hf:failedOf st=none)
  (done:∀ (s':Shared) (m:Nat),Inv X pins σ H s'→s'.heap.get? D=some (seqObj "list" ((arrOf st).map (·.2)) m)→P' (.done (.ret .none)) s') :
  wpAny (model X.prog X.w) A (ksk_tail D false e1 (.ref kS) st) P' E s:=by
 have L:(1000:Nat)≤sizeLine:=by rw [sizeLine_eq]; omega
 have s1:=Heap.SameBut.update s.heap kS (Obj.mapSeq fun _=>(#[]:Array Value))
 have hD1:(s.heap.update kS (Obj.mapSeq fun _=>(#[]:Array Value))).get? D=some (seqObj "list" #[] e1):=(s1.2 D hne.symm).trans hD
 have s2:=Heap.SameBut.update (s.heap.update kS (Obj.mapSeq fun _=>(#[]:Array Value))) D (Obj.mapSeq fun _=>(arrOf st).map (·.2))
 unfold ksk_tail
 try dsimp only
 refine wpAny_bind (listUpdate_at hk rfl ?_ (by rw [List.size_toArray]; omega) (Nat.zero_le _))
 refine wpAny_bind (wpAny_letGo ?_)
 refine wpAny_bind (seqEpoch_at hD1 rfl ?_)
 refine wpAny_bind (listUpdate_at hD1 rfl ?_ (Nat.zero_le _) (by simp only [Bool.false_eq_true,if_false,Array.size_map]; omega))
 rw [hf]
 simp only [bne_self_eq_false,Bool.false_eq_true,if_false]
 have I1:=I.upd1 (t':=s.toks) s1 fk
 have I2:=I1.upd1 (s:={ s with heap:=s.heap.update kS (Obj.mapSeq fun _=>(#[]:Array Value)),toks:=s.toks }) (t':=s.toks) s2 fD
 exact wpAny_pure (done _ _ I2 (get?_update_seq hD1 fun _=>(arrOf st).map (·.2)))
theorem keyed_end {P':PySem.Fin→Shared→Prop} {keys:List Value} {e e1:Nat} (I:Inv X pins σ H s) (hD:s.heap.get? D=some (seqObj "list" #[] e1)) (fD:FpOk X pins H D) (hk:s.heap.get? kS=some (seqObj "list" keys.toArray e)) (fk:FpOk X pins H kS) (hne:kS≠D)
  (hl:keys.length=vs.length) (hZ:vs.length≤1000) (hky:∀ i u,keys[i]?=some u→Ky i u)
  (kinds:∀ (keys:List Value) (s':Shared) (Qk:SortKind→Shared→Prop),keys.length=vs.length→2≤vs.length→(∀ i u,keys[i]?=some u→Ky i u)→Inv X pins σ H s'→(∀ kd,SortsAt X A E s' kd (keys.toArray.zip vs.toArray) W→Qk kd s')→wpAny (model X.prog X.w) A (keyKind' keys.toArray) Qk E s')
  (small:∀ keys:List Value,keys.length=vs.length→vs.length < 2→(∀ i u,keys[i]?=some u→Ky i u)→W ((keys.toArray.zip vs.toArray).map (·.2)))
  (done:∀ (xs:Array Value) (s':Shared) (m:Nat),W xs→Inv X pins σ H s'→s'.heap.get? D=some (seqObj "list" xs m)→P' (.done (.ret .none)) s') :
  wpAny (model X.prog X.w) A (ksk_end D false vs.toArray e1 (.ref kS) keys.toArray) P' E s:=by
 have hzs:(keys.toArray.zip vs.toArray).size=vs.length:=by rw [Array.size_zip,List.size_toArray,List.size_toArray,hl,Nat.min_self]
 unfold ksk_end
 try dsimp only
 simp only [Bool.false_eq_true,if_false]
 by_cases h2:vs.toArray.size < 2
 ·rw [if_pos h2,if_pos h2]
  refine wpAny_bind (wpAny_pure ?_)
  rw [StateT.run_pure]
  refine wpAny_bind (wpAny_pure ?_)
  try dsimp only
  refine keyed_tail (st:=SortSt.mk' general' (keys.toArray.zip vs.toArray) #[] 7 none) I hD fD hk fk hne (by omega) (by show (keys.toArray.zip vs.toArray).size≤1000; omega) rfl fun s' m I' hD'=>?_
  exact done _ s' m (small keys hl (by rw [List.size_toArray] at h2; exact h2) hky) I' hD'
 ·rw [if_neg h2,if_neg h2]
  rw [List.size_toArray] at h2
  refine wpAny_bind (kinds keys s _ hl (by omega) hky I fun kd hO=>?_)
  try dsimp only
  refine wpAny_bind (wpAny_mono hO ?_ fun _ _ e=>e)
  rintro ⟨⟨⟩,st'⟩ s' ⟨rfl,hp,hf,hw⟩
  try dsimp only
  refine keyed_tail I hD fD hk fk hne (by omega) (by rw [hp,hzs]; exact hZ) hf fun s' m I' hD'=>?_
  exact done _ s' m hw I' hD'
theorem keyed_tree {P':PySem.Fin→Shared→Prop} {n:Nat} (I:Inv X pins σ H s) (hD:s.heap.get? D=some (seqObj "list" vs.toArray n)) (fD:FpOk X pins H D) (hfo:s.heap.get? f=some fo) (ff:FpOk X pins H f) (fnc:∀ v,fo.data≠.cell v) (hfD:f≠D)
  (hZ:vs.length≤1000)
  (turn:∀ (i:Nat) (v:Value) (pins':List (Addr×Obj)) (s':Shared),vs[i]?=some v→(f,fo)∈pins'→Inv X pins' σ H s'→wpAny (model X.prog X.w) A (call (.ref f) [v]) (fun u s''=>Inv X pins' σ H s''∧Ky i u) (fun _ _=>False) s')
  (kinds:∀ (keys:List Value) (s':Shared) (Qk:SortKind→Shared→Prop),keys.length=vs.length→2≤vs.length→(∀ i u,keys[i]?=some u→Ky i u)→Inv X pins σ H s'→(∀ kd,SortsAt X A E s' kd (keys.toArray.zip vs.toArray) W→Qk kd s')→wpAny (model X.prog X.w) A (keyKind' keys.toArray) Qk E s')
  (small:∀ keys:List Value,keys.length=vs.length→vs.length < 2→(∀ i u,keys[i]?=some u→Ky i u)→W ((keys.toArray.zip vs.toArray).map (·.2)))
  (done:∀ (xs:Array Value) (s':Shared) (m:Nat),W xs→Inv X pins σ H s'→s'.heap.get? D=some (seqObj "list" xs m)→P' (.done (.ret .none)) s') :
  wpAny (model X.prog X.w) A (ksk_tree D (.ref f) false) P' E s:=by
 have L:(1000:Nat) < sizeLine:=by rw [sizeLine_eq]; omega
 have s1:=Heap.SameBut.update s.heap D (Obj.mapSeq fun _=>(#[]:Array Value))
 obtain ⟨e1,ho1⟩:∃ e1,(s.heap.update D (Obj.mapSeq fun _=>(#[]:Array Value))).get? D=some (seqObj "list" #[] e1):=⟨_,get?_update_seq hD fun _=>#[]⟩
 have I1:=I.upd1 (t':=s.toks) s1 fD
 have hDlt:D < s.heap.objs.size:=Heap.lt_size hD
 have hflt:f < s.heap.objs.size:=Heap.lt_size hfo
 have hz:(s.heap.update D (Obj.mapSeq fun _=>(#[]:Array Value))).objs.size=s.heap.objs.size:=Heap.size_update ..
 unfold ksk_tree
 refine wpAny_bind (listItems_at hD rfl ?_)
 refine wpAny_bind (listUpdate_at hD rfl ?_ (by rw [List.size_toArray]; omega) (Nat.zero_le _))
 refine wpAny_bind (seqEpoch_at ho1 rfl ?_)
 refine wpAny_bind (wpAny_newTuple ?_ (by show vs.length≤_; omega))
 refine wpAny_bind (wpAny_newList ?_ (Nat.zero_le _))
 refine wpAny_holding ?_
 have hkS:((s.heap.update D (Obj.mapSeq fun _=>(#[]:Array Value))).push (seqObj "tuple" vs.toArray 0)).objs.size=s.heap.objs.size + 1:=by rw [size_push',Heap.size_update]
 have keep2:∀ b o,(s.heap.update D (Obj.mapSeq fun _=>(#[]:Array Value))).get? b=some o→(((s.heap.update D (Obj.mapSeq fun _=>(#[]:Array Value))).push (seqObj "tuple" vs.toArray 0)).push (seqObj "list" #[] 0)).get? b=some o:=fun b o e=>Heap.get?_push_of_some _ (Heap.get?_push_of_some _ e)
 have I2:Inv X pins σ H { s with heap:=((s.heap.update D (Obj.mapSeq fun _=>(#[]:Array Value))).push (seqObj "tuple" vs.toArray 0)).push (seqObj "list" #[] 0) }:=I1.kept (t':=s.toks) keep2
 have fk:FpOk X pins H (s.heap.objs.size + 1):=I.fpOk (Nat.le_succ _) (I.hok.fresh (Nat.le_succ _))
 have gD:(((s.heap.update D (Obj.mapSeq fun _=>(#[]:Array Value))).push (seqObj "tuple" vs.toArray 0)).push (seqObj "list" #[] 0)).get? D=some (seqObj "list" #[] e1):=keep2 _ _ ho1
 have gf:(((s.heap.update D (Obj.mapSeq fun _=>(#[]:Array Value))).push (seqObj "tuple" vs.toArray 0)).push (seqObj "list" #[] 0)).get? f=some fo:=keep2 _ _ ((s1.2 f hfD).trans hfo)
 have gk:(((s.heap.update D (Obj.mapSeq fun _=>(#[]:Array Value))).push (seqObj "tuple" vs.toArray 0)).push (seqObj "list" #[] 0)).get? (s.heap.objs.size + 1)=some (seqObj "list" #[] 0):=by rw [←hkS]; exact Heap.get?_push_size _ rfl
 rw [hkS]
 show wpAny _ _ _ _ _ { s with heap:=((s.heap.update D (Obj.mapSeq fun _=>(#[]:Array Value))).push (seqObj "tuple" vs.toArray 0)).push (seqObj "list" #[] 0) }
 obtain ⟨s2,es2⟩:∃ s2:Shared,s2={ s with heap:=((s.heap.update D (Obj.mapSeq fun _=>(#[]:Array Value))).push (seqObj "tuple" vs.toArray 0)).push (seqObj "list" #[] 0) }:=⟨_,rfl⟩
 have hh:s2.heap=((s.heap.update D (Obj.mapSeq fun _=>(#[]:Array Value))).push (seqObj "tuple" vs.toArray 0)).push (seqObj "list" #[] 0):=by rw [es2]
 rw [←hh] at gD gf gk
 rw [←es2] at I2 ⊢
 have hkD:s.heap.objs.size + 1≠D:=Nat.ne_of_gt (Nat.lt_succ_of_lt hDlt)
 have hkf:s.heap.objs.size + 1≠f:=Nat.ne_of_gt (Nat.lt_succ_of_lt hflt)
 generalize s.heap.objs.size + 1=kS at fk gk hkD hkf ⊢
 unfold ksk_rest
 refine wpAny_bind (wpAny_rule ?_)
 first
  | rw [List.forIn_toArray]
  | (rw [←Array.forIn_toList]; simp only [List.toList_toArray])
  | rw [←Array.forIn_toList]
 refine wpAny_bind (ksk_fold (fun i s'=>∃ (kl:List Value) (e:Nat),Inv X pins σ H s'∧s'.heap.get? D=some (seqObj "list" #[] e1)∧s'.heap.get? f=some fo∧s'.heap.get? kS=some (seqObj "list" kl.toArray e)∧kl.length=i∧∀ j u,kl[j]?=some u→Ky j u) vs 0 s2
  ⟨[],0,I2,gD,gf,gk,rfl,fun j u e=>(by cases e)⟩ ?step ?done)
 case step =>
  rintro j x s' hx ⟨kl,e,I',hD',hf',hk',hlen,hky⟩
  simp only [Nat.zero_add] at hlen ⊢
  have hj:j < vs.length:=(List.getElem?_eq_some_iff.mp hx).1
  have Ip:Inv X ([(D,seqObj "list" #[] e1),(f,fo),(kS,seqObj "list" kl.toArray e)]++pins) σ H s':=I'.pin3 fun p hp=>by
   rcases List.mem_cons.mp hp with rfl | hp
   ·exact ⟨hD',fD,seq_nocell _ _ _⟩
   ·rcases List.mem_cons.mp hp with rfl | hp
    ·exact ⟨hf',ff,fnc⟩
    ·rw [List.mem_singleton.mp hp]; exact ⟨hk',fk,seq_nocell _ _ _⟩
  refine wpAny_bind (wpAny_attempt (wpAny_mono (turn j x _ s' hx (by simp) Ip) (fun v s'' he=>?_) fun _ _ hF=>hF.elim))
  obtain ⟨Iq,kv⟩:=he
  have hD2:s''.heap.get? D=some (seqObj "list" #[] e1):=Iq.pinned_at (p:=(D,seqObj "list" #[] e1)) (by simp)
  have hf2:s''.heap.get? f=some fo:=Iq.pinned_at (p:=(f,fo)) (by simp)
  have hk2:s''.heap.get? kS=some (seqObj "list" kl.toArray e):=Iq.pinned_at (p:=(kS,seqObj "list" kl.toArray e)) (by simp)
  have I3:Inv X pins σ H s'':=Iq.unpin
  try dsimp only
  have su:=Heap.SameBut.update s''.heap kS (Obj.mapSeq (·.push v))
  obtain ⟨c2,hc2⟩:∃ c2,(s''.heap.update kS (Obj.mapSeq (·.push v))).get? kS=some (seqObj "list" (kl++[v]).toArray c2):=by
   have:=get?_update_seq hk2 (·.push v)
   rw [show kl.toArray.push v=(kl++[v]).toArray by simp] at this
   exact ⟨_,this⟩
  refine wpAny_bind (listUpdate_at hk2 rfl ?_ (by rw [List.size_toArray]; omega) (Nat.le_trans (Nat.le_of_eq (Array.size_push ..)) (by rw [List.size_toArray]; omega)))
  refine wpAny_pure ⟨rfl,kl++[v],c2,I3.upd1 (t':=s''.toks) su fk,(su.2 D hkD.symm).trans hD2,(su.2 f hkf.symm).trans hf2,hc2,by rw [List.length_append,hlen]; rfl,fun i u hu=>?_⟩
  ·by_cases hi:i < kl.length
   ·rw [List.getElem?_append_left hi] at hu
    exact hky i u hu
   ·rw [List.getElem?_append_right (by omega)] at hu
    have hi0:i - kl.length=0:=by
     by_cases q:i - kl.length=0
     ·exact q
     ·obtain ⟨m,hm⟩:=Nat.exists_eq_succ_of_ne_zero q
      rw [hm] at hu; cases hu
    rw [hi0] at hu
    cases hu
    rw [show i=j by omega]
    exact kv
 case done =>
  rintro s' ⟨kl,e,I',hD',hf',hk',hlen,hky⟩
  try dsimp only
  refine wpAny_bind (listItems_at hk' rfl ?_)
  exact keyed_end I' hD' fD hk' fk hkD (by rw [hlen]; omega) hZ hky kinds small done
end
end L2
end
section
namespace Rv
open PySem PySem.Spec PyProof.Rows L2
def kindO {α:Type} (O:Rc.Ord α) (keyOf:Value→Option α) (dflt:α):PyProof.Rows.KeyKind where
 α:=α
 blt:=O.lt
 irrefl:=O.irr
 trans:=fun a b c h1 h2=>by
  rcases O.neg a c b h1 with h | h
  ·exact h
  ·rw [O.asym b c h2] at h; cases h
 negTrans:=O.neg
 total:=O.tot
 keyOf:=keyOf
 dflt:=dflt
def backN (v:Value):Nat:=(numOf v).toNat
theorem back_of {n:Nat} {v:Value} (h:RelV (.int (n:Int)) v):backN v=n:=by
 obtain ⟨t,rfl⟩:=h
 show ((n:Int)).toNat=n
 omega
theorem back_all:∀ {ns:List Nat} {vs:List Value},Vals (natsV ns) vs→vs.map backN=ns
 | [],_,h=>by cases h; rfl
 | n::ns,_,h=>by
  cases h with
  | cons r t=>rw [List.map_cons,back_of r,back_all t]
theorem vals_back:∀ {ns:List Nat} {vs:List Value},Vals (natsV ns) vs→∀ v∈vs,RelV (.int ((backN v:Nat):Int)) v
 | [],_,h,v,hv=>by cases h; cases hv
 | n::ns,_,h,v,hv=>by
  cases h with
  | cons r t =>
   rcases List.mem_cons.mp hv with rfl | hv
   ·rw [back_of r]; exact r
   ·exact vals_back t v hv
theorem vals_map_back:∀ {us:List Value},(∀ v∈us,RelV (.int ((backN v:Nat):Int)) v)→Vals (natsV (us.map backN)) us
 | [],_=>.nil
 | u::us,h=>.cons (h u List.mem_cons_self) (vals_map_back fun v hv=>h v (List.mem_cons_of_mem _ hv))
theorem out_sortK {α:Type} (O:Rc.Ord α) (keyOf:Value→Option α) (dflt:α) (key:Nat→α) {keys vs:List Value} {ns:List Nat} {arr:Array Keyed} (hl:keys.length=vs.length) (hv:Vals (natsV ns) vs)
  (hk:∀ (i:Nat) (u:Value),keys[i]?=some u→∃ n,ns[i]?=some n∧keyOf u=some (key n)) (hp:arr.Perm (keys.toArray.zip vs.toArray)) (hs:SortedToK (kindO O keyOf dflt) arr arr.size) (hst:Stable (kindO O keyOf dflt) arr (keys.toArray.zip vs.toArray)) :
  Vals (natsV (Rc.sortK O key ns)) (arr.map (·.2)).toList:=by
 have hperm:arr.toList.Perm (keys.zip vs):=by
  have:=Array.perm_iff_toList_perm.mp hp
  simpa using this
 have fz:∀ p∈keys.zip vs,keyOf p.1=some (key (backN p.2))∧RelV (.int ((backN p.2:Nat):Int)) p.2:=fun p hp=>by
  obtain ⟨i,hi⟩:=List.getElem?_of_mem hp
  obtain ⟨h1,h2⟩:=List.getElem?_zip_eq_some.mp hi
  obtain ⟨n,hn,hkn⟩:=hk i p.1 h1
  have e:backN p.2=n:=by
   have:=congrArg (fun l:List Nat=>l[i]?) (back_all hv)
   simp only [List.getElem?_map,h2,hn,Option.map_some,Option.some.injEq] at this
   exact this
  rw [e]
  refine ⟨hkn,?_⟩
  rw [←e]
  exact vals_back hv p.2 (List.mem_of_getElem? h2)
 have fa:∀ p∈arr.toList,keyOf p.1=some (key (backN p.2))∧RelV (.int ((backN p.2:Nat):Int)) p.2:=fun p hp=>fz p (hperm.mem_iff.mp hp)
 have same:∀ (l:List Keyed),(∀ p∈l,keyOf p.1=some (key (backN p.2)))→∀ c,(l.map fun p=>backN p.2).filter (Rc.sameK O key c)=(rowOf (kindO O keyOf dflt) c l).map fun p=>backN p.2:=by
  intro l hl c
  unfold rowOf
  rw [List.filter_map]
  congr 1
  refine List.filter_congr fun p hp=>?_
  show Rc.sameK O key c (backN p.2)=sameKey (kindO O keyOf dflt) c p
  unfold sameKey Rc.sameK
  have hk':(kindO O keyOf dflt).keyOf p.1=some (key (backN p.2)):=hl p hp
  rw [hk']
  rfl
 have ezip:(keys.zip vs).map (fun p=>backN p.2)=ns:=by
  rw [←back_all hv]
  have:(keys.zip vs).map (fun p=>backN p.2)=((keys.zip vs).map Prod.snd).map backN:=by rw [List.map_map]; rfl
  rw [this,List.map_snd_zip (by omega)]
 have e:arr.toList.map (fun p=>backN p.2)=Rc.sortK O key ns:=by
  refine Rc.sortK_only ?_ fun c=>?_
  ·unfold Rc.SortedK
   rw [List.pairwise_map]
   have h1:PyProof.Rows.KeysOf (kindO O keyOf dflt) arr:=fun p hp=>⟨_,(fa p hp).1⟩
   refine (keyLe_of_sorted h1 hs).imp_of_mem fun {p q} hp hq h=>?_
   obtain ⟨a,b,ha,hb,hab⟩:=h
   have ea:a=key (backN p.2):=Option.some.inj (ha.symm.trans (fa p hp).1)
   have eb:b=key (backN q.2):=Option.some.inj (hb.symm.trans (fa q hq).1)
   subst ea eb
   exact hab
  ·rw [same _ (fun p hp=>(fa p hp).1) c]
   have hc:=hst c
   have e2:(keys.toArray.zip vs.toArray).toList=keys.zip vs:=by simp
   rw [e2] at hc
   rw [hc,←same _ (fun p hp=>(fz p hp).1) c,ezip]
 rw [←e]
 have e3:(arr.map (·.2)).toList=arr.toList.map (·.2):=Array.toList_map
 rw [e3]
 have:=vals_map_back (us:=arr.toList.map (·.2)) fun v hv=>by
  obtain ⟨p,hp,rfl⟩:=List.mem_map.mp hv
  exact (fa p hp).2
 rw [List.map_map] at this
 exact this
section
variable {X:Cx} {pins:List (Addr×Obj)} {σ:L2.St} {H:Hp} {s:Shared} {A:Around} {E:Value→Shared→Prop} {f:Addr} {fo:Obj} {vs:List Value} {ns:List Nat} {α:Type} {O:Rc.Ord α} {keyOf:Value→Option α} {key:Nat→α} {Kx:Value→Prop} {Q:VK}
theorem sorted_core (I:Inv X pins σ H s) (hfo:s.heap.get? f=some fo) (ff:FpOk X pins H f) (fnc:∀ v,fo.data≠.cell v) (hv:Vals (natsV ns) vs) (hZ:ns.length≤1000)
  (turn:∀ (k:Nat) (v:Value) (pins':List (Addr×Obj)) (s':Shared),k∈ns→RelV (.int (k:Int)) v→(f,fo)∈pins'→Inv X pins' σ H s'→wpAny (model X.prog X.w) A.in1.in1 (call (.ref f) [v]) (fun u s''=>Inv X pins' σ H s''∧keyOf u=some (key k)∧Kx u) (fun _ _=>False) s')
  (kinds:∀ (keys:List Value) (E':Value→Shared→Prop) (s':Shared) (Qk:SortKind→Shared→Prop),2≤keys.length→keys.length=vs.length→(∀ (i:Nat) (u:Value),keys[i]?=some u→∃ n,ns[i]?=some n∧keyOf u=some (key n)∧Kx u)→Inv X pins σ H s'→(∀ kd,SortsAt X A.in1.in1 E' s' kd (keys.toArray.zip vs.toArray) (fun xs=>Vals (natsV (Rc.sortK O key ns)) xs.toList)→Qk kd s')→wpAny (model X.prog X.w) A.in1.in1 (keyKind' keys.toArray) Qk E' s')
  (q:∀ p,H p=none→Q (.ref p) (upd H p (.lst (natsV (Rc.sortK O key ns))))) :
  wpAny (model X.prog X.w) A.in1 (do let l ← newList vs; let _ ← holding [l] (call (.builtin "list.sort") [l] [(Str.ofString "key",.ref f)]); ret l) (fun fin s'=>∃ v,fin=.done (.ret v)∧EP X pins σ Q v s') E s:=by
 have hlen:ns.length=vs.length:=by have:=hv.length; unfold natsV at this; rwa [List.length_map] at this
 have L:(1000:Nat) < sizeLine:=by rw [sizeLine_eq]; omega
 refine wpAny_bind (wpAny_newList ?_ (by omega))
 have hD:(s.heap.push (seqObj "list" vs.toArray 0)).get? s.heap.objs.size=some (seqObj "list" vs.toArray 0):=Heap.get?_push_size _ rfl
 have keep:∀ b o,s.heap.get? b=some o→(s.heap.push (seqObj "list" vs.toArray 0)).get? b=some o:=fun b o e=>Heap.get?_push_of_some _ e
 have I1:Inv X pins σ H { s with heap:=s.heap.push (seqObj "list" vs.toArray 0) }:=I.kept (t':=s.toks) keep
 have fD:FpOk X pins H s.heap.objs.size:=I.fpOk (Nat.le_refl _) (I.hok.fresh (Nat.le_refl _))
 have hflt:f≠s.heap.objs.size:=Nat.ne_of_lt (Heap.lt_size hfo)
 refine wpAny_bind (wpAny_holding (wpAny_call_entry_kw slot_list_sort ⟨_,hD,rfl⟩ entry_list_sort ?body (ksk_l1 _ _)))
 show wpAny (model X.prog X.w) A.in1.in1 (Builtin.«list.sort» ⟨[.ref s.heap.objs.size],[(Str.ofString "key",.ref f)]⟩) _ _ { s with heap:=s.heap.push (seqObj "list" vs.toArray 0) }
 rw [ksk_t1]
 refine keyed_tree (W:=fun xs=>Vals (natsV (Rc.sortK O key ns)) xs.toList) (Ky:=fun i u=>∃ n,ns[i]?=some n∧keyOf u=some (key n)∧Kx u) I1 hD fD (keep _ _ hfo) ff fnc hflt (by omega) (fun i v pins' s' hi hm I'=>?_) (fun keys s' Qk hl h2 hky I' hq=>?_) (fun keys hl h2 hky=>?_) fun xs s' m vals I' hD'=>?_
 ·obtain ⟨n,hn⟩:∃ n,ns[i]?=some n:=⟨_,List.getElem?_eq_getElem (by rw [hlen]; exact (List.getElem?_eq_some_iff.mp hi).1)⟩
  obtain ⟨v',hv',rv⟩:=hv.get (i:=i) (x:=V.int (n:Int)) (by unfold natsV; rw [List.getElem?_map,hn]; rfl)
  rw [hi] at hv'
  cases hv'
  refine thn (turn n v pins' s' (List.mem_of_getElem? hn) rv hm I') fun u s'' ⟨h1,h2,h3⟩=>⟨h1,n,hn,h2,h3⟩
 ·exact kinds keys _ s' Qk (by omega) hl hky I' hq
 ·refine out_sortK O keyOf (key 0) key hl hv (fun i u h=>let ⟨n,h1,h2,_⟩:=hky i u h; ⟨n,h1,h2⟩) (Array.Perm.refl _) ?_ (Stable.refl _)
  have hzs:(keys.toArray.zip vs.toArray).size=vs.length:=by rw [Array.size_zip,List.size_toArray,List.size_toArray,hl,Nat.min_self]
  intro i j hij hj
  rw [hzs] at hj
  have:i=j:=by omega
  subst this
  exact KeyOrd.kle_refl _
 ·refine ⟨_,rfl,wpAny_pure ⟨_,rfl,?_⟩⟩
  have hlen2:(natsV (Rc.sortK O key ns)).length≤sizeLine:=by
   unfold natsV
   rw [List.length_map,(Rc.sortK_perm ns).length_eq]
   omega
  refine ⟨.ref s.heap.objs.size,_,I'.track (o:=.lst (natsV (Rc.sortK O key ns))) (t':=s'.toks) fD ⟨hlen2,_,m,vals,?_⟩,rfl,q _ fD.1⟩
  rw [Array.toArray_toList]
  exact hD'
end
end Rv
end
section
namespace Rv
open PySem PySem.Spec PyProof.Rows L2
open PySem.W (kla_fn kla_obj envX)
def keyI (v:Value):Option Int:=match v with
 | .int n _=>some n
 | _=>none
theorem keyI_some {v:Value} {n:Int} (h:keyI v=some n):∃ t,v=.int n t:=by
 cases v <;> simp [keyI] at h
 subst h
 exact ⟨_,rfl⟩
theorem ints_of_keys:∀ {keys:List Value},(∀ u∈keys,∃ n,keyI u=some n)→∃ ns,IntsAre keys ns
 | [],_=>⟨[],.nil⟩
 | u::keys,h=>by
  obtain ⟨n,hn⟩:=h u List.mem_cons_self
  obtain ⟨t,rfl⟩:=keyI_some hn
  obtain ⟨ns,hns⟩:=ints_of_keys fun v hv=>h v (List.mem_cons_of_mem _ hv)
  exact ⟨n::ns,.cons n t hns⟩
theorem kinds_int {X:Cx} {pins:List (Addr×Obj)} {σ:L2.St} {H:Hp} (keys:List Value) (A':Around) (E':Value→Shared→Prop) (s':Shared) (Qk:SortKind→Shared→Prop) (h2:2≤keys.length) (hk:∀ u∈keys,∃ n,keyI u=some n) (I:Inv X pins σ H s')
  (hq:∀ kd,G.LtAt X.prog X.w s' (kindO Rc.intO keyI 0) kd→Qk kd s'):wpAny (model X.prog X.w) A' (keyKind' keys.toArray) Qk E' s':=by
 obtain ⟨ns,hI⟩:=ints_of_keys hk
 match keys,h2,hI with
 | v1::v2::rest,_,hI =>
  rw [keyKind_ints hI]
  refine wpAny_pure (hq _ ?_)
  intro A E x y a b Q ha hb h
  obtain ⟨t,rfl⟩:=keyI_some (show keyI x=some a from ha)
  obtain ⟨u,rfl⟩:=keyI_some (show keyI y=some b from hb)
  exact PySem.W.kat_lt_int h
theorem keys_zip {κ:PyProof.Rows.KeyKind} {keys vs:List Value} (h:∀ (i:Nat) (u:Value),keys[i]?=some u→∃ a,κ.keyOf u=some a):PyProof.Rows.KeysOf κ (keys.toArray.zip vs.toArray):=fun p hp=>by
 have hp':p∈keys.zip vs:=by simpa using hp
 have h1:=(List.of_mem_zip (a:=p.1) (b:=p.2) hp').1
 obtain ⟨i,hi⟩:=List.getElem?_of_mem h1
 exact h i p.1 hi
section
variable {X:Cx} {e body:Expr} {te:TE} {params:Arguments} {scope:Scope} {x fv nm:Str} {lpos kpos p pos:Pos} {c P:Addr} {j k:Nat}
def restL (P:Addr) (lpos:Pos) (lq:Str) (j:Nat) (tb:TE) (σ:L2.St) (Q:VK) (v:V) (H1:Hp):Prop:=∃ (a:Addr) (ns:List Nat) (z:V),v=.ref a∧H1 a=some (.lst (natsV ns))∧ns.length≤1000∧TabOk H1 P lpos lq∧σ[j]?=some (some z) ∧
 ∀ H2,Lam H1 H2 P lpos lq→∃ key:Nat→Int,(∀ k∈ns,tb [some (.int (k:Int)),some z] H2 fun u H3=>H3=H2∧u=.int (key k))∧∀ q,H2 q=none→Q (.ref q) (upd H2 q (.lst (natsV (Rc.sortK Rc.intO key ns))))
def tSortL (P:Addr) (lpos:Pos) (lq:Str) (j:Nat) (te tb:TE):TE:=fun σ H Q=>te σ H (restL P lpos lq j tb σ Q)
def oneV (R:V→Hp→Prop) (vs:List V) (H:Hp):Prop:=match vs with
 | [v]=>R v H
 | _=>False
theorem oneV_of {R:V→Hp→Prop} {vs:List V} {us:List Value} {H:Hp} (h:oneV R vs H) (r:Vals vs us):∃ v u,us=[u]∧RelV v u∧R v H:=by
 match vs,h with
 | [v],h =>
  obtain ⟨u,rfl,ru⟩:=Vals.one r
  exact ⟨v,u,rfl,ru,h⟩
theorem lam_key {A:Around} {pins:List (Addr×Obj)} {σ:L2.St} {H:Hp} {s:Shared} {f c' cell:Addr} {pm ctv:Value} {y z:V} {u:Value} {qual:Str} {tb:TE} {Q:VK} (I:Inv X pins σ H s) (hA:A.frames=X.A.frames) (hr:Room k A) (S:LamScope scope x fv)
  (hf:s.heap.get? f=some (kla_obj "<lambda>" qual params body scope [(fv,cell)] pm c' ctv)) (hcd:s.heap.CodeRec (.ref c') qual)
  (hbind:∀ (qual:Str) (cl:List (Str×Addr)) (pm cd ctv v:Value),bindArgs (kla_fn "<lambda>" qual params body scope cl pm cd ctv) ⟨[v],[]⟩=pure [(x,v)])
  (hN:X.N[j]?=some fv) (hcv:X.env.scope.names.lookup fv=some .cell) (hcell:X.env.cells.lookup fv=some cell) (hz:σ[j]?=some (some z)) (ry:RelV y u)
  (hbody:∀ (A:Around) (f:Addr) (cd:Value) (c:Addr) (s:Shared) (H:Hp),PE (cxLam X A x fv qual scope f cd c s H) body tb) (h:tb [some y,some z] H Q) :
  wpAny (model X.prog X.w) A (call (.ref f) [u]) (EP X pins σ Q) (fun _ _=>False) s:=by
 obtain ⟨m,_,hl⟩:=I.loc
 obtain ⟨w,rw',look⟩:=hl j fv z hN hz (.inr (.inl hcv))
 have hc:∃ w,RelV z w∧s.heap.IsCell cell (some w):=by
  rcases look with ⟨hk,_⟩ | ⟨_,c2,hc2,hcell2⟩
  ·have:X.env.scope.names.lookup fv=some .local:=hk
   rw [hcv] at this; cases this
  ·rw [hcell] at hc2
   cases hc2
   exact ⟨w,rw',hcell2⟩
 exact lam_run I hA hr S hf hcd (fun v=>hbind _ _ _ _ _ v) hc (I.freeC fv cell hcell) ry (hbody _ _ _ _ _ _) h
theorem pe_sortL {tb:TE} (hr:Room 4 X.A) (hg:Gl X "sorted") (hm:X.mg "sorted"=none) (he:PE X e te) (S:LamScope scope x fv) (hcode:X.env.code=.ref c) (hd:PySem.W.codeHdIn X.K c P=true) (B:BMain X.mg X.base)
  (hclo:∀ cells,cloFrom cells scope.names []=[(fv,(cells.lookup fv).getD 0)]) (hdef:defaultsOf params X.env=([],[]))
  (hbind:∀ (qual:Str) (cl:List (Str×Addr)) (pm cd ctv v:Value),bindArgs (kla_fn "<lambda>" qual params body scope cl pm cd ctv) ⟨[v],[]⟩=pure [(x,v)])
  (hN:X.N[j]?=some fv) (hcv:X.env.scope.names.lookup fv=some .cell)
  (hbody:∀ (A:Around) (f:Addr) (cd:Value) (c:Addr) (s:Shared) (H:Hp),PE (cxLam X A x fv (X.env.qual++"<lambda>") scope f cd c s H) body tb)
  (hs1:starEach [e] X.env=[(false,eval e X.env)]:=by rfl) :
  PE X (.Call (.Name "sorted" p) [e] [⟨some "key",.Lambda params body scope lpos,kpos⟩] pos) (tSortL P lpos (X.env.qual++"<lambda>") j te tb):=by
 intro pins s σ H Q I h
 refine wpAny_Call_Name_kw (ld_blt I hg hm boot_sorted ?_)
 have hfree:∃ cell,X.env.cells.lookup fv=some cell:=I.ok.has fv (.inl hcv)
 obtain ⟨cell,hcell⟩:=hfree
 refine PyProof.Rows.callWith_kw (thn (pa_cons he pa_nil hs1 pos pins s σ H (oneV (restL P lpos (X.env.qual++"<lambda>") j tb σ Q)) I h) fun us s1 ⟨vs,H1,I1,r1,q1⟩=>?_) (by rw [hs1]; rfl) (by rw [hs1]; rfl)
 obtain ⟨v,u,rfl,ru,a,ns,z,rfl,ha,hZ,hT,hz,q⟩:=oneV_of q1 r1
 cases ru
 show wpAny _ _ (evalAll [(do let v ← eval (.Lambda params body scope lpos) X.env; standAt pos; pure v)]) _ _ s1
 have hcl:closureFor scope X.env=pure [(fv,cell)]:=by
  rw [closure_ok fun y hy e=>⟨cell,by rw [S.free y hy e]; exact hcell⟩,hclo,hcell]
  rfl
 refine wpAny_evalAll_cons (wpAny_bind (lam_make I1 hT hcode hd B hcl hdef fun f c' ctv H2 s2 I2 L hfge hfn hf hrec hx=>?_))
 refine wpAny_bind (wpAny_standAt (wpAny_pure (wpAny_evalAll_nil ?_)))
 show wpAny _ _ (call (.builtin "sorted") [.ref a] [(Str.ofString "key",.ref f)]) _ _ s2
 obtain ⟨key,hk,q⟩:=q H2 L
 have ha2:H2 a=some (.lst (natsV ns)):=L.same a _ ha fun e=>by
  obtain ⟨ps,hP,_⟩:=hT
  rw [e,hP] at ha; cases ha
 obtain ⟨its,rv,⟨⟨cls,dd,data,sl⟩,n,ho,hc,hdn,hdt⟩,hzl⟩:=I2.list (SqL.of (K:=X.K) ha2)
 simp only at hc hdt
 subst hc hdt
 have hlen:its.length≤1000:=by
  have:=rv.length
  unfold natsV at this
  rw [List.length_map] at this
  omega
 have LL:(1000:Nat) < sizeLine:=by rw [sizeLine_eq]; omega
 refine call_function_entry_kw kind_sorted plain_sorted entry_sorted (ksk_s1 _ _) ?_
 unfold Builtin.«sorted»
 refine wpAny_bind (m:=checkCount "sorted" 1 1 _) (wpAny_pure ?_)
 show wpAny (model X.prog X.w) X.A.in1 (do let x ← collect (.ref a); let l ← newList x; let _ ← holding [l] (call (.builtin "list.sort") [l] [(Str.ofString "key",.ref f)]); ret l) _ _ s2
 refine wpAny_bind (collect_list ⟨_,ho,rfl,n,rfl⟩ ?_ (by omega))
 have keep:∀ b o,s2.heap.get? b=some o→((s2.heap.push (seqObj "list" #[] 0)).update s2.heap.objs.size (Obj.mapSeq (·++its.toArray))).get? b=some o:=fun b o e=>by
  have hlt:=Heap.lt_size e
  rw [Heap.get?_update_ne _ _ _ _ (Nat.ne_of_lt hlt)]
  exact Heap.get?_push_of_some _ e
 have I3:Inv X pins σ H2 { s2 with heap:=(s2.heap.push (seqObj "list" #[] 0)).update s2.heap.objs.size (Obj.mapSeq (·++its.toArray)) }:=I2.kept (t':=s2.toks) keep
 have ff:FpOk X pins H2 f:=I1.fpOk hfge hfn
 refine sorted_core (O:=Rc.intO) (keyOf:=keyI) (key:=key) (Kx:=fun u=>∃ n,keyI u=some n) I3 (keep _ _ hf) ff (fun v z=>by
  have z':Data.func _=Data.cell v:=z
  cases z') rv (by have:=rv.length; unfold natsV at this; rw [List.length_map] at this; omega) (fun k v pins' s' hkm rkv hm I'=>?_) (fun keys E' s' Qk h2 hl hky I' hq=>kinds_int keys _ E' s' Qk h2 (fun u hu=>let ⟨i,hi⟩:=List.getElem?_of_mem hu; let ⟨n,_,_,h⟩:=hky i u hi; h) I' fun kd hO=>hq kd (sorts_of hO (keys_zip fun i u hi=>let ⟨n,_,h,_⟩:=hky i u hi; ⟨_,h⟩) (by rw [Array.size_zip,List.size_toArray,List.size_toArray]; omega) fun arr hp hs hst=>out_sortK Rc.intO keyI 0 key hl rv (fun i u h=>let ⟨n,h1,h2,_⟩:=hky i u h; ⟨n,h1,h2⟩) hp hs hst)) q
 have hfo':=I'.pinned_at hm
 have hrec':s'.heap.CodeRec (.ref c') (X.env.qual++"<lambda>"):=codeX_at I'.hok hx
 refine thn (lam_key (k:=2) I' rfl (hr.in1.in1) S hfo' hrec' hbind hN hcv hcell hz rkv hbody (hk k hkm)) fun u s'' ⟨v',H',I'',rv',e1,e2⟩=>?_
 subst e1 e2
 obtain ⟨t,rfl⟩:=rv'
 exact ⟨I'',rfl,_,rfl⟩
end
end Rv
end
section
namespace Rv
open PySem PySem.Spec PyProof.Rows L2
theorem nolen_ri:typeLookup (.type "list_reverseiterator") "__len__"=pure none:=by rw [typeLookup_type,builtinLookup_eq_fast]; kernel_rfl
theorem hint_ri:typeLookup (.type "list_reverseiterator") "__length_hint__"=pure (some (.builtin "list_reverseiterator.__length_hint__")):=by rw [typeLookup_type,builtinLookup_eq_fast]; kernel_rfl
section
variable {prog:Program} {w:World} {A:Around} {E:Value→Shared→Prop} {s:Shared}
theorem hint_rev {it l:Addr} {i:Int} {Q:Bool→Shared→Prop} (hit:s.heap.IsRevIter it l i) (h:Q false s):wpAny (model prog w) A (Builtin.List.listLengthHint (.ref it)) Q E s:=by
 unfold Builtin.List.listLengthHint
 refine wpAny_bind (wpAny_specialOf hit.typeIs nolen_ri ?_)
 show wpAny _ A (specialOf (Value.ref it) (Str.ofString "__length_hint__") >>= _) _ _ _
 refine wpAny_bind (wpAny_specialOf hit.typeIs hint_ri ?_)
 generalize hid:("list_reverseiterator.__length_hint__":String)=id0
 (fail_if_success (clear hid id0))
 wp_delta
 rw [show splitId id0=some ("list_reverseiterator","__length_hint__") from by subst hid; decide +kernel]
 subst hid
 refine wpAny_bind (wpAny_isInstance (b:=true) hit.typeIs (by rw [isSubtype_type]; kernel_rfl) ?_)
 exact wpAny_pure h
theorem extend_rev {R:Result→Shared→Prop} {it l:Addr} {items:Array Value} (hh:A.handled=none) (hit:s.heap.IsRevIter it l ((items.size:Int) - 1)) (hl:s.heap.IsList l items) (hn:items.size≤sizeLine) (S:Addr) (res:Value) (c0:Nat) (hS:s.heap.get? S=some { cls:=.type "list",data:=.seq #[] c0 }) (hSl:S≠l)
  (hR:∀ h' tk acc' c',(∀ b o,b≠S→b≠it→s.heap.get? b=some o→h'.get? b=some o)→h'.get? S=some { cls:=.type "list",dict:=none,data:=.seq acc' c',slots:=#[] } →
   ItemsOf (fun i v=>items[items.size - 1 - i]?=some v) acc' items.size→R (.ok (.ret res)) { s with heap:=h',toks:=tk }) :
  wpAny (model prog w) A.in1 (Builtin.List.listExtendWith (.ref S) (.ref it) res)
   (fun fin s'=>match fin with | .done f=>R (.ok f) s' | .again c'=>c'.quiet=true∧codeAny (model prog w) A c' R s') (fun e s'=>R (.error e) s') s:=by
 obtain ⟨oi,hoi,hci,hdi⟩:=id hit
 obtain ⟨ol,hol,hcl,nl,hdl⟩:=id hl
 have hli:l≠it:=fun e=>by
  rw [e,hoi] at hol
  cases hol
  rw [hci] at hcl
  simp at hcl
 have hSi:S≠it:=fun e=>by
  rw [e,hoi] at hS
  cases hS
  simp at hci
 have hSf:S ∉ [it,l]:=fun hm=>by
  rcases List.mem_cons.mp hm with e | hm
  ·exact hSi e
  ·exact hSl (List.mem_singleton.mp hm)
 have W:=(Walks.listRev (prog:=prog) (w:=w) (A:=A.in1) hh it l hli items).toS
 unfold Builtin.List.listExtendWith
 refine wpAny_bind (wpAny_typeOf hit.typeIs ?_)
 have h1:Builtin.List.listSameRef (.ref S) (.ref it)=false:=by simp [Builtin.List.listSameRef,hSi]
 have h2:(Value.type "list_reverseiterator"==Value.type "list")=false:=by decide
 have h3:(Value.type "list_reverseiterator"==Value.type "tuple")=false:=by decide
 simp only [h1,h2,h3,Bool.or_false,Bool.false_eq_true,if_false]
 refine wpAny_bind (wpAny_pyIter_revIter hit ?_)
 refine wpAny_bind (wpAny_holding (hint_rev hit ?_))
 refine wpAny_ite_split (fun hab=>absurd hab (by decide)) (fun _=>wpAny_pure ⟨plainId_quiet F.plain_extend_loop _,?_⟩)
 have hst:0≤items.size∧s.heap.IsRevIter it l ((items.size:Int) - 1 - ((0:Nat):Int))∧s.heap.IsList l items:=⟨Nat.zero_le _,by simpa using hit,hl⟩
 refine codeAny_extend_loopS W hn S hSf res items.size 0 _ #[] c0 rfl (Nat.zero_le _) hst hS (ItemsOf.nil _) fun s' acc' c' hm hS' hacc=>?_
 rw [Moved.eq_with hm]
 refine hR s'.heap s'.toks acc' c' (fun b o hb hb2 e=>hm.heap b o (fun hmem=>?_) e) hS' hacc
 rcases List.mem_cons.mp hmem with e' | hmem
 ·exact hb e'
 ·exact hb2 (List.mem_singleton.mp hmem)
theorem call_list_rev {Q:Value→Shared→Prop} {it l:Addr} {items:Array Value} (hh:A.handled=none) (hit:s.heap.IsRevIter it l ((items.size:Int) - 1)) (hl:s.heap.IsList l items) (hn:items.size≤sizeLine)
  (hQ:∀ h' tk acc' c',(∀ b o,b≠it→s.heap.get? b=some o→h'.get? b=some o)→h'.get? s.heap.objs.size=some { cls:=.type "list",dict:=none,data:=.seq acc' c',slots:=#[] } →
   ItemsOf (fun i v=>items[items.size - 1 - i]?=some v) acc' items.size→Q (.ref s.heap.objs.size) { s with heap:=h',toks:=tk }) :
  wpAny (model prog w) A (call (.type "list") [.ref it]) Q E s:=by
 refine callType_codes (Q₁:=fun obj s₁=>obj=.ref s.heap.objs.size∧s₁={ s with heap:=s.heap.push { cls:=.type "list",data:=.seq #[] } }) F.called_list (F.typeCall_list_1 _) F.entry_list_init
  (code_list_new _ ⟨rfl,rfl⟩) fun obj s₁ h₁=>?_
 obtain ⟨rfl,rfl⟩:=h₁
 have hS:(s.heap.push { cls:=.type "list",data:=.seq #[] }).get? s.heap.objs.size=some { cls:=.type "list",data:=.seq #[] }:=Heap.get?_push_size _ rfl
 refine ⟨⟨_,hS,rfl⟩,F.args_list_init_2 _ _,?_⟩
 have hit1:(s.heap.push { cls:=.type "list",data:=.seq #[] }).IsRevIter it l ((items.size:Int) - 1):=hit.at fun o e=>Heap.get?_push_of_some _ e
 obtain ⟨oi,hoi,_⟩:=id hit
 obtain ⟨ol,hol,_⟩:=id hl
 have hSi:s.heap.objs.size≠it:=Nat.ne_of_gt (Heap.lt_size hoi)
 have hSl:s.heap.objs.size≠l:=Nat.ne_of_gt (Heap.lt_size hol)
 show wpAny _ _ (do let old ← Builtin.List.listItems (.ref s.heap.objs.size); Builtin.List.listUpdate (.ref s.heap.objs.size) (fun _=>#[]); letGo old.toList.reverse; Builtin.List.listExtendWith (.ref s.heap.objs.size) (.ref it) .none) _ _ _
 refine wpAny_bind (listItems_at hS rfl ?_)
 refine wpAny_bind (listUpdate_at hS rfl ?_ (Nat.zero_le _) (Nat.zero_le _))
 refine wpAny_bind (wpAny_letGo ?_)
 have su:=Heap.SameBut.update (s.heap.push { cls:=.type "list",data:=.seq #[] }) s.heap.objs.size (Obj.mapSeq fun _=>(#[]:Array Value))
 have hS2:=get?_update_seq (c:="list") (xs:=#[]) (n:=0) hS fun _=>(#[]:Array Value)
 refine extend_rev (A:=A.in1) hh (hit1.at fun o e=>(su.2 it hSi.symm).trans e) ⟨ol,(su.2 l hSl.symm).trans (Heap.get?_push_of_some _ hol),by obtain ⟨o,e,r⟩:=hl; rw [hol] at e; cases e; exact r⟩ hn s.heap.objs.size .none _ hS2 hSl fun h' tk acc' c' hk hS' hacc=>?_
 exact ⟨rfl,hQ h' tk acc' c' (fun b o hb e=>hk b o (Nat.ne_of_lt (Heap.lt_size e)) hb ((su.2 b (Nat.ne_of_lt (Heap.lt_size e))).trans (Heap.get?_push_of_some _ e))) hS' hacc⟩
end
section
variable {X:Cx} {e:Expr} {te:TE} {p p2 pos pos2:Pos}
def restRev (Q:VK) (v:V) (H1:Hp):Prop:=∃ a xs,v=.ref a∧H1 a=some (.lst xs)∧∀ l,H1 l=none→Q (.ref l) (upd H1 l (.lst xs.reverse))
def tListRev (te:TE):TE:=fun σ H Q=>te σ H (restRev Q)
theorem items_rev {xs:List V} {its:List Value} {acc:Array Value} (r:Vals xs its) (h:ItemsOf (fun i v=>its.toArray[its.toArray.size - 1 - i]?=some v) acc its.toArray.size):Vals xs.reverse acc.toList:=by
 have e:acc.toList=its.reverse:=by
  apply List.ext_getElem?
  intro i
  rw [Array.getElem?_toList]
  by_cases hi:i < its.length
  ·have hs:i < acc.size:=by rw [h.1]; simpa using hi
   have h2:=h.2 i acc[i] (Array.getElem?_eq_getElem hs)
   rw [Array.getElem?_eq_getElem hs,List.getElem?_reverse hi]
   simpa using h2.symm
  ·rw [Array.getElem?_eq_none (by rw [h.1]; simpa using hi),List.getElem?_eq_none (by rw [List.length_reverse]; omega)]
 rw [e]
 exact r.reverse
theorem pe_listRev (hc:X.calm=true) (hg:Gl X "list") (hm:X.mg "list"=none) (hg2:Gl X "reversed") (hm2:X.mg "reversed"=none) (he:PE X e te) (hs:starEach [e] X.env=[(false,eval e X.env)]:=by rfl)
  (hs2:starEach [.Call (.Name "reversed" p2) [e] [] pos2] X.env=[(false,eval (.Call (.Name "reversed" p2) [e] [] pos2) X.env)]:=by rfl) :
  PE X (.Call (.Name "list" p) [.Call (.Name "reversed" p2) [e] [] pos2] [] pos) (tListRev te):=by
 intro pins s σ H Q I h
 refine Call_ (ld_blt I hg hm boot_list (PyProof.Rows.callWith_type1 ?_ hs2 rfl))
 rw [hs2]
 show wpAny _ _ (spliced ((false,eval (.Call (.Name "reversed" p2) [e] [] pos2) X.env)::[])) _ _ s
 refine Calls.spliced_cons ?_
 refine Call_ (ld_blt I hg2 hm2 boot_reversed5 (PyProof.Rows.callWith_type1 (thn (pa_cons he pa_nil hs pos2 pins s σ H (oneV (restRev Q)) I h) fun us s1 ⟨vs,H1,I1,r1,q1⟩=>?_) hs rfl))
 obtain ⟨v,u,rfl,ru,a,xs,rfl,ha,q⟩:=oneV_of q1 r1
 cases ru
 obtain ⟨its,rv,p',hz⟩:=I1.list (SqL.of (K:=X.K) ha)
 refine call_reversed_list p'.isList ?_
 refine Calls.spliced_nil ?_
 have hit:(s1.heap.push (revObj a ((its.toArray.size:Int) - 1))).IsRevIter s1.heap.objs.size a ((its.toArray.size:Int) - 1):=⟨_,Heap.get?_push_size _ rfl,rfl,rfl⟩
 have keep:∀ b o,s1.heap.get? b=some o→(s1.heap.push (revObj a ((its.toArray.size:Int) - 1))).get? b=some o:=fun b o e=>Heap.get?_push_of_some _ e
 have hl2:(s1.heap.push (revObj a ((its.toArray.size:Int) - 1))).IsList a its.toArray:=let ⟨o,e,r⟩:=p'.isList; ⟨o,keep _ _ e,r⟩
 have I2:Inv X pins σ H1 { s1 with heap:=s1.heap.push (revObj a ((its.toArray.size:Int) - 1)) }:=I1.kept (t':=s1.toks) keep
 refine call_list_rev (s:={ s1 with heap:=s1.heap.push (revObj a ((its.toArray.size:Int) - 1)) }) (I1.ok.hd hc) hit hl2 (by rw [List.size_toArray,←rv.length]; exact hz) fun h' tk acc' c' hk hS' hacc=>?_
 have hsz:(s1.heap.push (revObj a ((its.toArray.size:Int) - 1))).objs.size=s1.heap.objs.size + 1:=by rw [size_push']
 have hnew:H1 (s1.heap.objs.size + 1)=none:=I1.hok.fresh (Nat.le_succ _)
 have fi:=I1.fpOk (Nat.le_refl _) (I1.hok.fresh (Nat.le_refl _))
 obtain ⟨f0,f1,f2,f3,f4,f5⟩:=fi
 have I3:Inv X pins σ H1 { s1 with heap:=h',toks:=tk }:=Inv.turned (s:={ s1 with heap:=s1.heap.push (revObj a ((its.toArray.size:Int) - 1)) }) (it:=s1.heap.objs.size) (t':=tk) I2 (fun b o hb e=>hk b o hb e) f0 f1 f3 f4 f5
 have I4:=I3.track (D:=s1.heap.objs.size + 1) (o:=.lst xs.reverse) (t':=tk) (I1.fpOk (Nat.le_succ _) hnew) ⟨by rw [List.length_reverse]; exact hz,acc'.toList,c',items_rev rv hacc,by
  rw [Array.toArray_toList]
  have:=hS'
  rw [show ({ s1 with heap:=s1.heap.push (revObj a ((its.toArray.size:Int) - 1)) }:Shared).heap.objs.size=s1.heap.objs.size + 1 from hsz] at this
  exact this⟩
 rw [show ({ s1 with heap:=s1.heap.push (revObj a ((its.toArray.size:Int) - 1)) }:Shared).heap.objs.size=s1.heap.objs.size + 1 from hsz]
 exact ⟨.ref (s1.heap.objs.size + 1),_,I4,rfl,q _ hnew⟩
end
end Rv
end
section
namespace Rv
open PySem PySem.Spec PyProof.Rows L2
section
variable {prog:Program} {w:World} {A:Around} {E:Value→Shared→Prop} {s:Shared}
theorem tn_at {h h':Heap} {a t:Addr} {i:Nat} (q:h.IsTupleIter a t i) (k:∀ o,h.get? a=some o→h'.get? a=some o):h'.IsTupleIter a t i:=let ⟨o,e,r⟩:=q; ⟨o,k o e,r⟩
theorem nextT {it t:Addr} {i:Nat} {its:Array Value} {x:Value} {Q:Value→Shared→Prop} (hit:s.heap.IsTupleIter it t i) (ht:s.heap.IsTuple t its) (hx:its[i]?=some x)
  (hQ:∀ h',h'.IsTupleIter it t (i + 1)→Heap.SameBut it s.heap h'→Q x { s with heap:=h' }):wpAny (model prog w) A (Builtin.SmallTypes.nextOf (.ref it)) Q E s:=by
 obtain ⟨oi,hoi,hci,hdi⟩:=id hit
 obtain ⟨ot,hot,_,nt,hdt⟩:=ht
 have ty:s.TypeIs (.ref it) "tuple_iterator":=⟨oi,hoi,hci⟩
 unfold Builtin.SmallTypes.nextOf
 refine wpAny_bind (wpAny_callSpecial?_slot (name:=Str.ofString "__next__") ty F.slot_tuple_iterator_next (wpAny_call_entry F.slot_tuple_iterator_next ty F.entry_tuple_iterator_next ?_ (F.args_tuple_iterator_next_1 _)))
 show wpAny _ _ (field (.ref it) 0 >>= _) _ _ s; refine wpAny_bind (wpAny_field hoi hdi (x:=.ref t) rfl ?_)
 show wpAny _ _ (if (Value.ref t==Value.none)=true then _ else _) _ _ s; rw [if_neg (show ¬ ((Value.ref t==Value.none)=true) from Bool.false_ne_true)]
 show wpAny _ _ (field (.ref it) 1 >>= _) _ _ s; refine wpAny_bind (wpAny_field hoi hdi (x:=.int i 0) rfl ?_)
 show wpAny _ _ (seqItems? (.ref t) >>= _) _ _ s; refine wpAny_bind (wpAny_seqItems hot hdt ?_)
 simp only [Int.toNat_natCast,hx]
 refine wpAny_bind (wpAny_setField hoi hdi (by simp) (wpAny_pure ⟨x,rfl,wpAny_pure (hQ _ ⟨_,Heap.get?_update_self _ hoi (Obj.isFreed_of_fields (Obj.data_mapFields hdi _)),(Obj.cls_mapFields ..).trans hci,?_⟩ (Heap.SameBut.update ..))⟩))
 rw [Obj.data_mapFields hdi]; simp [rawInt]
structure ZLT (h:Heap) (z TI TO i1 i2 l1 l2:Addr) (k:Nat):Prop where
 zip:IsZip h z TI TO .none
 ins:IsPair h TI (.ref i1) (.ref i2)
 out:∃ a b,IsPair h TO a b
 one:h.IsListIter i1 l1 k
 two:h.IsTupleIter i2 l2 k
theorem zlt_item {z TI TO i1 i2 l1 l2:Addr} {k:Nat} {xs ys:Array Value} {x y:Value} {Q:Option Value→Shared→Prop} (D:ZipApart z TI TO i1 i2 l1 l2) (Z:ZLT s.heap z TI TO i1 i2 l1 l2 k)
  (hl1:s.heap.IsList l1 xs) (hl2:s.heap.IsTuple l2 ys) (hx:xs[k]?=some x) (hy:ys[k]?=some y)
  (hQ:∀ h',IsZip h' z TI TO (rawInt s.heap.objs.size)→(∃ a b,IsPair h' TO a b)→h'.IsListIter i1 l1 (k + 1)→h'.IsTupleIter i2 l2 (k + 1)→IsPair h' s.heap.objs.size x y→(∀ c o,c≠z→c≠TO→c≠i1→c≠i2→s.heap.get? c=some o→h'.get? c=some o)→Q (some (.ref s.heap.objs.size)) { s with heap:=h' }) :
  wpAny (model prog w) A (pyNext (.ref z)) Q E s:=by
 obtain ⟨hz,hTI,⟨a,b,hTO⟩,h1,h2⟩:=Z
 have ty:s.TypeIs (.ref z) "zip":=⟨_,hz,rfl⟩
 unfold pyNext
 refine wpAny_bind (wpAny_attempt (wpAny_callSpecial?_slot (name:=Str.ofString "__next__") ty F.slot_zip_next (wpAny_call_entry F.slot_zip_next ty F.entry_zip_next ?_ (F.args_zip_next_1 _))))
 show wpAny _ _ (field (.ref z) 2 >>= _) _ _ _; refine wpAny_bind (wpAny_field hz rfl (x:=.bool false) rfl ?_)
 show wpAny _ _ (field (.ref z) 3 >>= _) _ _ _; refine wpAny_bind (wpAny_field hz rfl (x:=.ref TI) rfl ?_)
 refine wpAny_bind (wpAny_seqItems hTI rfl ?_); show wpAny _ _ (Builtin.SmallTypes.ownedTupleIsFree (.ref z) >>= _) _ _ _
 refine wpAny_bind ?_; unfold Builtin.SmallTypes.ownedTupleIsFree
 refine wpAny_bind (wpAny_field hz rfl (x:=.none) rfl (wpAny_pure ?_)); simp only [if_true]
 refine wpAny_bind (wpAny_rule ?_); refine wpAny_bind (wpAny_field hz rfl (x:=.ref TO) rfl ?_)
 refine wpAny_bind (wpAny_setField_rec hz (by simp) fun g1 hz1 e1=>?_)
 have hz1:IsZip g1 z TI TO .ellipsis:=hz1
 refine wpAny_bind ?_; simp only [List.zipIdx_cons,List.zipIdx_nil,List.forIn_cons,List.forIn_nil]
 refine wpAny_bind (wpAny_bind (wpAny_onRaise ?_)); show wpAny _ _ (Builtin.SmallTypes.nextOf (.ref i1) >>= _) _ _ _
 refine wpAny_bind (wpAny_nextOf_list_item (h1.extBut e1.extBut D.i1z) (hl1.extBut e1.extBut D.l1z) hx fun g2 n1 e2=>wpAny_pure ?_)
 have hTO2:IsPair g2 TO a b:=e2.extBut _ _ D.TOi1 (e1.extBut _ _ D.TOz hTO)
 refine wpAny_bind (wpAny_seqItems hTO2 rfl ?_); refine wpAny_bind (wpAny_updateSeq_pair hTO2 fun g3 hTO3 e3=>?_)
 have hTO3:IsPair g3 TO x b:=hTO3
 refine wpAny_bind (wpAny_letGo (wpAny_pure ?_)); refine wpAny_bind (wpAny_bind (wpAny_onRaise ?_))
 show wpAny _ _ (Builtin.SmallTypes.nextOf (.ref i2) >>= _) _ _ _
 have h2':g3.IsTupleIter i2 l2 k:=tn_at h2 fun o q=>e3.extBut _ _ D.TOi2.symm (e2.extBut _ _ D.i12.symm (e1.extBut _ _ D.i2z q))
 have hl2':g3.IsTuple l2 ys:=((hl2.extBut e1.extBut D.l2z).extBut e2.extBut D.l2i1).extBut e3.extBut D.l2TO
 refine wpAny_bind (nextT h2' hl2' hy fun g4 n2 e4=>wpAny_pure ?_)
 have hTO4:IsPair g4 TO x b:=e4.extBut _ _ D.TOi2 hTO3
 refine wpAny_bind (wpAny_seqItems hTO4 rfl ?_); refine wpAny_bind (wpAny_updateSeq_pair hTO4 fun g5 hTO5 e5=>?_)
 have hTO5:IsPair g5 TO x y:=hTO5
 refine wpAny_bind (wpAny_letGo (wpAny_pure (wpAny_pure ?_))); refine wpAny_bind (wpAny_seqItems hTO5 rfl ?_)
 refine wpAny_bind (wpAny_newTuple ?_)
 have sz:g5.objs.size=s.heap.objs.size:=by rw [e5.1,e4.1,e3.1,e2.1,e1.1]
 have hz5:IsZip g5 z TI TO .ellipsis:=e5.extBut _ _ D.TOz.symm (e4.extBut _ _ D.i2z.symm (e3.extBut _ _ D.TOz.symm (e2.extBut _ _ D.i1z.symm hz1)))
 have k5:∀ c o,c≠z→c≠TO→c≠i1→c≠i2→s.heap.get? c=some o→g5.get? c=some o:=fun c o c1 c2 c3 c4 q=>e5.extBut _ _ c2 (e4.extBut _ _ c4 (e3.extBut _ _ c2 (e2.extBut _ _ c3 (e1.extBut _ _ c1 q))))
 have m1:g5.IsListIter i1 l1 (k + 1):=((n1.extBut e3.extBut D.TOi1.symm).extBut e4.extBut D.i12).extBut e5.extBut D.TOi1.symm
 have m2:g5.IsTupleIter i2 l2 (k + 1):=tn_at n2 fun o q=>e5.extBut _ _ D.TOi2.symm q
 have zl:z < g5.objs.size:=Heap.lt_size hz5
 show wpAny _ _ (Builtin.SmallTypes.ownedTupleHandOut (.ref z) (.ref g5.objs.size) >>= _) _ _ _
 refine wpAny_bind ?_; unfold Builtin.SmallTypes.ownedTupleHandOut
 have hz6:IsZip (g5.push { cls:=.type "tuple",data:=.seq #[x,y] }) z TI TO .ellipsis:=Heap.get?_push_of_some _ hz5
 refine wpAny_bind (wpAny_setField_rec hz6 (by simp) fun g7 hz7 e7=>?_)
 have hz7:IsZip g7 z TI TO (rawInt g5.objs.size):=hz7
 refine wpAny_setField_rec hz7 (by simp) fun g8 hz8 e8=>?_
 have hz8:IsZip g8 z TI TO (rawInt g5.objs.size):=hz8
 have up:∀ c o,c≠z→g5.get? c=some o→g8.get? c=some o:=fun c o c1 q=>e8.extBut _ _ c1 (e7.extBut _ _ c1 (Heap.get?_push_of_some _ q))
 have hT8:IsPair g8 g5.objs.size x y:=e8.extBut _ _ (Nat.ne_of_gt zl) (e7.extBut _ _ (Nat.ne_of_gt zl) (Heap.get?_push_size _ rfl))
 rw [sz] at hz8 hT8
 refine wpAny_pure ⟨_,rfl,wpAny_pure ?_⟩
 show Q (some (.ref g5.objs.size)) _; rw [sz]
 exact hQ g8 hz8 ⟨x,y,up _ _ D.TOz hTO5⟩ (m1.at fun o q=>up _ o D.i1z q) (tn_at m2 fun o q=>up _ o D.i2z q) hT8 fun c o c1 c2 c3 c4 q=>up c o c1 (k5 c o c1 c2 c3 c4 q)
theorem zlt_end {z TI TO i1 i2 l1 l2:Addr} {k:Nat} {xs:Array Value} {Q:Option Value→Shared→Prop} (hh:A.handled=none) (D:ZipApart z TI TO i1 i2 l1 l2) (Z:ZLT s.heap z TI TO i1 i2 l1 l2 k) (hl1:s.heap.IsList l1 xs) (hx:xs[k]?=none)
  (hQ:∀ h',(∀ c o,c≠z→c≠TO→c≠i1→c≠i2→s.heap.get? c=some o→h'.get? c=some o)→Q none { s with heap:=h' }):wpAny (model prog w) A (pyNext (.ref z)) Q E s:=by
 obtain ⟨hz,hTI,⟨a,b,hTO⟩,h1,h2⟩:=Z
 have ty:s.TypeIs (.ref z) "zip":=⟨_,hz,rfl⟩
 unfold pyNext
 refine wpAny_bind (wpAny_attempt (wpAny_callSpecial?_slot (name:=Str.ofString "__next__") ty F.slot_zip_next (wpAny_call_entry F.slot_zip_next ty F.entry_zip_next ?_ (F.args_zip_next_1 _))))
 show wpAny _ _ (field (.ref z) 2 >>= _) _ _ _; refine wpAny_bind (wpAny_field hz rfl (x:=.bool false) rfl ?_)
 show wpAny _ _ (field (.ref z) 3 >>= _) _ _ _; refine wpAny_bind (wpAny_field hz rfl (x:=.ref TI) rfl ?_)
 refine wpAny_bind (wpAny_seqItems hTI rfl ?_); show wpAny _ _ (Builtin.SmallTypes.ownedTupleIsFree (.ref z) >>= _) _ _ _
 refine wpAny_bind ?_; unfold Builtin.SmallTypes.ownedTupleIsFree
 refine wpAny_bind (wpAny_field hz rfl (x:=.none) rfl (wpAny_pure ?_)); simp only [if_true]
 refine wpAny_bind (wpAny_rule ?_); refine wpAny_bind (wpAny_field hz rfl (x:=.ref TO) rfl ?_)
 refine wpAny_bind (wpAny_setField_rec hz (by simp) fun g1 hz1 e1=>?_)
 have hz1:IsZip g1 z TI TO .ellipsis:=hz1
 refine wpAny_bind ?_; simp only [List.zipIdx_cons,List.zipIdx_nil,List.forIn_cons,List.forIn_nil]
 refine wpAny_bind (wpAny_bind (wpAny_onRaise ?_)); show wpAny _ _ (Builtin.SmallTypes.nextOf (.ref i1) >>= _) _ _ _
 refine wpAny_bind (wpAny_nextOf_list_end hh (h1.extBut e1.extBut D.i1z) (hl1.extBut e1.extBut D.l1z) hx fun g2 e e2 he=>?_)
 obtain ⟨oe,hoe,hce⟩:=he
 have hz2:IsZip g2 z TI TO .ellipsis:=e2 _ _ D.i1z.symm hz1
 have ez:e≠z:=fun q=>by subst q; rw [hz2] at hoe; cases hoe; simp at hce
 refine wpAny_setField_rec hz2 (by simp) fun g3 _ e3=>?_
 refine wpAny_bind (wpAny_isInstance (T:="StopIteration") (b:=true) ⟨oe,e3.extBut _ _ ez hoe,hce⟩ isSubtype_stop ?_)
 exact wpAny_pure (hQ _ fun c o c1 _ c3 _ q=>e3.extBut _ _ c1 (e2 _ _ c3 (e1.extBut _ _ c1 q)))
def zA (h:Heap) (l1:Addr):Heap:=h.push ⟨.type "list_iterator",none,.fields #[.ref l1,.int 0 0],#[]⟩
def zB (h:Heap) (l1 l2:Addr):Heap:=(zA h l1).push ⟨.type "tuple_iterator",none,.fields #[.ref l2,.int 0 0],#[]⟩
def zC (h:Heap) (l1 l2:Addr):Heap:=(zB h l1 l2).push ⟨.type "tuple",none,.seq #[.ref h.objs.size,.ref (zA h l1).objs.size],#[]⟩
def zD (h:Heap) (l1 l2:Addr):Heap:=(zC h l1 l2).push ⟨.type "tuple",none,.seq #[.none,.none],#[]⟩
def zE (h:Heap) (l1 l2:Addr):Heap:=(zD h l1 l2).push ⟨.type "zip",none,.fields #[.none,.bool false,.bool false,.ref (zB h l1 l2).objs.size,.ref (zC h l1 l2).objs.size],#[]⟩
theorem zlt_new (l1 l2:Addr) (xs ys:Array Value):Meets (Builtin.«zip.__new__» ⟨[.type "zip",.ref l1,.ref l2],[]⟩) (fun _ R s=>s.heap.IsList l1 xs∧s.heap.IsTuple l2 ys∧R (.ok (.ret (.ref (zD s.heap l1 l2).objs.size))) { s with heap:=zE s.heap l1 l2 }) :=
 .of_wp fun prog w A R s h=>by
  obtain ⟨hp,g,d,tk,os⟩:=s
  obtain ⟨q1,q2,h⟩:=h
  have hs:=sub_zip
  have hL:Heap.IsList (Shared.heap ⟨hp,g,d,tk,os⟩) l1 xs:=q1
  have hT:Heap.IsTuple (Shared.heap ⟨hp.push { cls:=.type "list_iterator",data:=.fields #[.ref l1,.int 0 0] },g,d,tk,os⟩) l2 ys:=let ⟨o,q,r⟩:=q2; ⟨o,Heap.get?_push_of_some _ q,r⟩
  wp_walk using wpAny_pyIter_list hL,wpAny_pyIter_tuple hT
  exact ⟨_,rfl,h⟩
theorem zlt_call {l1 l2:Addr} {xs ys:Array Value} {Q:Value→Shared→Prop} (q1:s.heap.IsList l1 xs) (q2:s.heap.IsTuple l2 ys)
  (h:∀ h',ZLT h' (s.heap.objs.size + 4) (s.heap.objs.size + 2) (s.heap.objs.size + 3) s.heap.objs.size (s.heap.objs.size + 1) l1 l2 0→(∀ c o,s.heap.get? c=some o→h'.get? c=some o)→Q (.ref (s.heap.objs.size + 4)) { s with heap:=h' }) :
  wpAny (model prog w) A (call (.type "zip") [.ref l1,.ref l2]) Q E s:=by
 refine callType_new F.called_zip (by decide) (F.typeCall_zip_2 _ _) (F.newCall_zip_2 _ _) (fun obj=>F.args_object_init_3 obj _ _) F.entry_zip_new (zlt_new l1 l2 xs ys) ⟨q1,q2,?_⟩
 have sA:(zA s.heap l1).objs.size=s.heap.objs.size + 1:=Heap.size_push ..
 have sB:(zB s.heap l1 l2).objs.size=s.heap.objs.size + 2:=by unfold zB; rw [Heap.size_push,sA]
 have sC:(zC s.heap l1 l2).objs.size=s.heap.objs.size + 3:=by unfold zC; rw [Heap.size_push,sB]
 have sD:(zD s.heap l1 l2).objs.size=s.heap.objs.size + 4:=by unfold zD; rw [Heap.size_push,sC]
 have kA:∀ c o,s.heap.get? c=some o→(zA s.heap l1).get? c=some o:=fun c o q=>Heap.get?_push_of_some _ q
 have kB:∀ c o,(zA s.heap l1).get? c=some o→(zB s.heap l1 l2).get? c=some o:=fun c o q=>Heap.get?_push_of_some _ q
 have kC:∀ c o,(zB s.heap l1 l2).get? c=some o→(zC s.heap l1 l2).get? c=some o:=fun c o q=>Heap.get?_push_of_some _ q
 have kD:∀ c o,(zC s.heap l1 l2).get? c=some o→(zD s.heap l1 l2).get? c=some o:=fun c o q=>Heap.get?_push_of_some _ q
 have kE:∀ c o,(zD s.heap l1 l2).get? c=some o→(zE s.heap l1 l2).get? c=some o:=fun c o q=>Heap.get?_push_of_some _ q
 have gE:(zE s.heap l1 l2).get? (zD s.heap l1 l2).objs.size=some _:=Heap.get?_push_size _ rfl
 have gD:(zD s.heap l1 l2).get? (zC s.heap l1 l2).objs.size=some _:=Heap.get?_push_size _ rfl
 have gC:(zC s.heap l1 l2).get? (zB s.heap l1 l2).objs.size=some _:=Heap.get?_push_size _ rfl
 have gB:(zB s.heap l1 l2).get? (zA s.heap l1).objs.size=some _:=Heap.get?_push_size _ rfl
 have gA:(zA s.heap l1).get? s.heap.objs.size=some _:=Heap.get?_push_size _ rfl
 rw [sB,sC,sD] at gE
 rw [sC] at gD
 rw [sA,sB] at gC
 rw [sA] at gB
 show _∧_
 rw [sD]
 exact ⟨⟨_,gE,rfl⟩,h _ ⟨gE,kE _ _ (kD _ _ gC),⟨_,_,kE _ _ gD⟩,⟨_,kE _ _ (kD _ _ (kC _ _ (kB _ _ gA))),rfl,rfl⟩,⟨_,kE _ _ (kD _ _ (kC _ _ gB)),rfl,rfl⟩⟩ fun c o q=>kE _ _ (kD _ _ (kC _ _ (kB _ _ (kA _ _ q))))⟩
end
def ItLT (K:PySem.W.Frag) (a b:Addr):It :=
 ⟨fun i H=>∃ (xs ys:List V) (x y:V),SqL K H a xs∧SqT K H b ys∧xs[i]?=some x∧ys[i]?=some y,
  fun i H v H'=>∃ T x y,v=.ref T∧H T=none∧H'=upd H T (.tup [x,y])∧(∀ xs,SqL K H a xs→xs[i]?=some x)∧∀ ys,SqT K H b ys→ys[i]?=some y,
  fun i H=>∃ xs:List V,SqL K H a xs∧xs.length≤i⟩
theorem turn_zlt {P:Program} {w:World} {K:PySem.W.Frag} {elts:List Expr} {kk:Nat} {tpos:Pos} {a b z TI TO i1 i2:Addr} (D:ZipApart z TI TO i1 i2 a b) :
  Turn P w K (.Tuple elts kk tpos) (ItLT K a b) [z,TI,TO,i1,i2] z (fun i h=>ZLT h z TI TO i1 i2 a b i) where
 mem:=List.mem_cons_self
 obj:=fun i h st c hc=>by
  obtain ⟨hz,hTI,⟨x,y,hTO⟩,⟨o1,e1,_,d1⟩,⟨o2,e2,_,d2⟩⟩:=st
  have cs:c=z∨c=TI∨c=TO∨c=i1∨c=i2:=by simpa using hc
  rcases cs with rfl | rfl | rfl | rfl | rfl
  ·exact ⟨_,hz,fun v q=>nomatch q⟩
  ·exact ⟨_,hTI,fun v q=>nomatch q⟩
  ·exact ⟨_,hTO,fun v q=>nomatch q⟩
  ·exact ⟨o1,e1,fun v q=>by rw [d1] at q; cases q⟩
  ·exact ⟨o2,e2,fun v q=>by rw [d2] at q; cases q⟩
 keep:=fun i h h' st k=>by
  obtain ⟨hz,hTI,⟨x,y,hTO⟩,h1,h2⟩:=st
  exact ⟨k z (by simp) _ hz,k TI (by simp) _ hTI,⟨x,y,k TO (by simp) _ hTO⟩,h1.at fun o q=>k i1 (by simp) o q,tn_at h2 fun o q=>k i2 (by simp) o q⟩
 item:=by
  intro X hP hw hK hc i pins s σ H E I hf st hg
  subst hP hw hK
  have Z:=st
  obtain ⟨hz,hTI,⟨x0,y0,hTO⟩,h1,h2⟩:=st
  obtain ⟨xs,ys,x,y,hqx,hqy,hx,hy⟩:=hg
  obtain ⟨its,rv,p,_⟩:=I.list hqx
  obtain ⟨its2,rv2,p2,_⟩:=I.tuple hqy
  obtain ⟨u,hu,ru⟩:=rv.get hx
  obtain ⟨u2,hu2,ru2⟩:=rv2.get hy
  have hzl:z < s.heap.objs.size:=Heap.lt_size hz
  refine zlt_item D Z p.isList p2 (x:=u) (y:=u2) (by simpa using hu) (by simpa using hu2) fun h' z' TO' h1' h2' hT hk=>?_
  refine ⟨_,rfl,wpAny_letOwnedTupleGo_zip (s:={ s with heap:=h' }) z' fun h'' z'' sb=>?_⟩
  have hT2:h''.get? s.heap.objs.size=some { cls:=.type "tuple",data:=.seq #[u,u2] }:=(sb.2 _ (Nat.ne_of_gt hzl)).trans hT
  have new:ObjOk X.prog X.w (upd H s.heap.objs.size (.tup [x,y])) h'' s.heap.objs.size (.tup [x,y]):=⟨by show 2≤sizeLine; decide,[u,u2],.cons ru (.cons ru2 .nil),⟨_,hT2,rfl,_,rfl⟩⟩
  have I1:Inv X pins σ (upd H s.heap.objs.size (.tup [x,y])) { s with heap:=h'' } :=
   I.turnedNew (t':=s.toks) (ch:=[z,TI,TO,i1,i2]) (fun c o hb q=>(sb.2 c (fun q'=>hb (by simp [q']))).trans (hk c o (fun q'=>hb (by simp [q'])) (fun q'=>hb (by simp [q'])) (fun q'=>hb (by simp [q'])) (fun q'=>hb (by simp [q'])) q)) hf (Nat.le_refl _) new
  obtain ⟨x1,y1,TO'⟩:=TO'
  refine ⟨.ref s.heap.objs.size,_,I1,rfl,⟨_,x,y,rfl,I.hok.fresh (Nat.le_refl _),rfl,fun l hl=>by rw [I.list_inj hl hqx]; exact hx,fun l hl=>by rw [I.tuple_inj hl hqy]; exact hy⟩,⟨z'',?_,⟨x1,y1,?_⟩,?_,?_⟩,fun c hcm=>?_⟩
  ·exact (sb.2 _ D.TIz).trans (hk _ _ D.TIz D.TITO D.TIi1 D.TIi2 hTI)
  ·exact (sb.2 _ D.TOz).trans TO'
  ·exact h1'.at fun o q=>(sb.2 _ D.i1z).trans q
  ·exact tn_at h2' fun o q=>(sb.2 _ D.i2z).trans q
  ·have hlt:c < s.heap.objs.size:=by
    have cs:c=z∨c=TI∨c=TO∨c=i1∨c=i2:=by simpa using hcm
    obtain ⟨_,e1,_⟩:=h1
    obtain ⟨_,e2,_⟩:=h2
    rcases cs with rfl | rfl | rfl | rfl | rfl
    ·exact hzl
    ·exact Heap.lt_size hTI
    ·exact Heap.lt_size hTO
    ·exact Heap.lt_size e1
    ·exact Heap.lt_size e2
   rw [upd_ne (Nat.ne_of_lt hlt)]
   exact (hf c hcm).1
 done:=by
  intro X hP hw hK hc i pins s σ H E I hf st hg
  subst hP hw hK
  obtain ⟨xs,hqx,hend⟩:=hg
  obtain ⟨its,rv,p,_⟩:=I.list hqx
  have hl:=rv.length
  exact zlt_end (I.ok.hd hc) D st p.isList (by simp; omega) fun h' hk=>⟨rfl,I.turnedL (t':=s.toks) (ch:=[z,TI,TO,i1,i2]) (fun c o hb q =>
   hk c o (fun q'=>hb (by simp [q'])) (fun q'=>hb (by simp [q'])) (fun q'=>hb (by simp [q'])) (fun q'=>hb (by simp [q'])) q) hf⟩
 self:=fun A i s Q E st h=>wpAny_pyIter_zip st.1 h
def iZLT (K:PySem.W.Frag) (ta:TA):L2.TI:=fun σ H R=>ta σ H fun vs H1=>∃ a b xs ys,vs=[.ref a,.ref b]∧SqL K H1 a xs∧SqT K H1 b ys∧R (ItLT K a b) H1
theorem pi_zipLT {X:Cx} {e e2:Expr} {ta:TA} {p pos tpos:Pos} {elts:List Expr} {kk:Nat} (hg:Gl X "zip") (hm:X.mg "zip"=none) (ha:PA X [e,e2] ta)
  (hs:starEach [e,e2] X.env=(false,eval e X.env)::starEach [e2] X.env:=by rfl) (hpl:(backTo pos (starEach [e2] X.env)).any (·.1)=false:=by rfl):PI X (.Tuple elts kk tpos) (.Call (.Name "zip" p) [e,e2] [] pos) (iZLT X.K ta):=by
 intro pins s σ H R I h
 refine Call_ (ld_blt I hg hm boot_zip5 (PyProof.Rows.callWith_type1 (thn (ha pos pins s σ H _ I h) fun us s1 ⟨vs,H1,I1,r1,q1⟩=>?_) hs hpl))
 obtain ⟨a,b,xs,ys,rfl,hqx,hqy,q⟩:=q1
 obtain ⟨u,u2,rfl,r,r'⟩:=vals2 r1
 cases r
 cases r'
 obtain ⟨its,rv,p1,_⟩:=I1.list hqx
 obtain ⟨its2,rv2,p2,_⟩:=I1.tuple hqy
 have la:a < s1.heap.objs.size:=p1.lt
 have lb:b < s1.heap.objs.size:=let ⟨_,e,_⟩:=p2; Heap.lt_size e
 refine zlt_call p1.isList p2 fun h' Z hk=>wpAny_pyIter_zip Z.1 ?_
 have I2:Inv X pins σ H1 { s1 with heap:=h' }:=I1.kept (t':=s1.toks) hk
 refine ⟨s1.heap.objs.size + 4,[s1.heap.objs.size + 4,s1.heap.objs.size + 2,s1.heap.objs.size + 3,s1.heap.objs.size,s1.heap.objs.size + 1],_,_,H1,rfl,I2,turn_zlt (PySem.W.ktu_apart s1.heap.objs.size a b la lb),Z,fun c hcm=>?_,q⟩
 have hle:s1.heap.objs.size≤c:=by
  have cs:c=s1.heap.objs.size + 4∨c=s1.heap.objs.size + 2∨c=s1.heap.objs.size + 3∨c=s1.heap.objs.size∨c=s1.heap.objs.size + 1:=by simpa using hcm
  rcases cs with rfl | rfl | rfl | rfl | rfl
  all_goals first | exact Nat.le_add_right _ _ | exact Nat.le_refl _
 exact I1.fpOk hle (I1.hok.fresh hle)
theorem for_zlt {K:PySem.W.Frag} {a b:Addr} {xs ys:List V} {g:TG} {tb:TS} {D:Ends} {σ:L2.St} {H:Hp} (hlen:xs.length=ys.length) (Pv:Nat→L2.St→Hp→Prop) (h0:Pv 0 σ H) (hl:∀ i σ H,i≤xs.length→Pv i σ H→SqL K H a xs∧SqT K H b ys)
  (hs:∀ i x y σ H T,xs[i]?=some x→ys[i]?=some y→Pv i σ H→H T=none→g (.ref T) σ (upd H T (.tup [x,y])) fun σ2 H2=>tb { D with nx:=Pv (i + 1),ct:=Pv (i + 1),bk:=D.nx } σ2 H2) (hd:∀ σ H,Pv xs.length σ H→D.nx σ H) :
  ∃ W:Nat→Nat→L2.St→Hp→Prop,(∃ m,W 0 m σ H)∧∀ i m σ H,W i m σ H →
   ((ItLT K a b).stop i H∧D.nx σ H)∨((ItLT K a b).go i H∧∃ N:L2.St→Hp→Prop,(∀ σ' H',N σ' H'→∃ m',m' < m∧W (i + 1) m' σ' H')∧∀ x H',(ItLT K a b).yld i H x H'→g x σ H' fun σ2 H2=>tb { D with nx:=N,ct:=N,bk:=D.nx } σ2 H2):=by
 refine ⟨fun i m σ H=>m=xs.length - i∧i≤xs.length∧Pv i σ H,⟨xs.length,by simp,Nat.zero_le _,h0⟩,?_⟩
 rintro i m σ H ⟨rfl,hi,p⟩
 obtain ⟨q1,q2⟩:=hl i σ H hi p
 by_cases hlt:i < xs.length
 ·have e1:xs[i]?=some xs[i]:=List.getElem?_eq_getElem hlt
  have e2:ys[i]?=some (ys[i]'(hlen ▸ hlt)):=List.getElem?_eq_getElem _
  refine .inr ⟨⟨xs,ys,_,_,q1,q2,e1,e2⟩,Pv (i + 1),fun σ' H' p'=>⟨xs.length - (i + 1),by omega,rfl,hlt,p'⟩,?_⟩
  rintro v H' ⟨T,x,y,rfl,hT,rfl,hx,hy⟩
  exact hs i x y σ H T (hx xs q1) (hy ys q2) p hT
 ·have e:i=xs.length:=by omega
  subst e
  exact .inl ⟨⟨xs,q1,Nat.le_refl _⟩,hd σ H p⟩
end Rv
end
section
namespace Rv
open PySem PySem.Spec PyProof.Rows L2
def top (i:Nat):Stmt:=PySem.Challenge.pw_racetally_s01_answers.main.body.getD i (.Pass ⟨0,0,0,0⟩)
abbrev s_Line_init:Stmt:=inClass (top 9) 0
abbrev s_sign_of:Stmt:=top 10
abbrev s_parts_of:Stmt:=top 11
abbrev s_is_name:Stmt:=top 12
abbrev s_number_of:Stmt:=top 13
abbrev s_numbers_of:Stmt:=top 14
abbrev s_read_line:Stmt:=top 15
abbrev s_Race_init:Stmt:=inClass (top 26) 0
abbrev s_Series_init:Stmt:=inClass (top 27) 0
abbrev s_race_copy:Stmt:=top 28
abbrev s_series_copy:Stmt:=top 29
abbrev s_result_word:Stmt:=top 30
abbrev s_may_have_pen:Stmt:=top 31
abbrev s_boat_line_cant_stand:Stmt:=top 32
abbrev s_cant_stand:Stmt:=top 33
abbrev s_out_clashes:Stmt:=top 34
abbrev s_boat_line_clashes:Stmt:=top 35
abbrev s_clashes:Stmt:=top 36
abbrev s_too_much:Stmt:=top 37
abbrev s_why_wrong:Stmt:=top 38
abbrev s_put_line:Stmt:=top 39
abbrev s_add_text:Stmt:=top 40
abbrev s_greatest_divisor:Stmt:=top 43
abbrev s_lowest_terms:Stmt:=top 44
abbrev s_told_fraction:Stmt:=top 45
abbrev s_most_points:Stmt:=top 46
abbrev s_own_points:Stmt:=top 47
abbrev s_average_points:Stmt:=top 48
abbrev s_points_by_race:Stmt:=top 49
abbrev s_out_count:Stmt:=top 51
abbrev s_left_out:Stmt:=top 52
abbrev s_kept_points:Stmt:=top 53
abbrev s_boat_score:Stmt:=top 54
abbrev s_all_scores:Stmt:=top 55
abbrev s_who_is_before:Stmt:=top 56
abbrev s_place_and_shared:Stmt:=top 57
abbrev s_boats_in_order:Stmt:=top 58
abbrev s_Desk_init:Stmt:=inClass (top 76) 0
abbrev s_Desk_take:Stmt:=inClass (top 76) 1
abbrev s_Desk_more:Stmt:=inClass (top 76) 2
abbrev s_Desk_hold:Stmt:=inClass (top 76) 3
abbrev s_Desk_text:Stmt:=inClass (top 76) 4
abbrev s_Desk_sizes:Stmt:=inClass (top 76) 5
abbrev s_Desk_refusal:Stmt:=inClass (top 76) 6
abbrev s_Desk_points:Stmt:=inClass (top 76) 7
abbrev s_Desk_out:Stmt:=inClass (top 76) 8
abbrev s_Desk_total:Stmt:=inClass (top 76) 9
abbrev s_Desk_before:Stmt:=inClass (top 76) 10
abbrev s_Desk_place:Stmt:=inClass (top 76) 11
abbrev s_Desk_order:Stmt:=inClass (top 76) 12
abbrev s_call_end:Stmt:=top 77
abbrev s_answer:Stmt:=top 78
abbrev s_answers:Stmt:=top 79
structure Df (K:PySem.W.Frag) (mg:Str→Option Value) (x:Str) (st:Stmt) (ps:List Str) where
 f:Addr
 fd:FuncData
 fn:Fun K x x st f fd
 bd:Binds K fd ps []
 gl:mg x=some (.ref f)
structure Mt (K:PySem.W.Frag) (C:Addr) (x qual:Str) (st:Stmt) (ps:List Str) where
 f:Addr
 fd:FuncData
 fn:Fun K x qual st f fd
 bd:Binds K fd ps []
 me:Meth K C x f
structure ClsX (K:PySem.W.Frag) (mg:Str→Option Value) (x qual:Str) (st:Stmt) (ps:List Str) where
 C:Addr
 gl:mg x=some (.ref C)
 cl:Cls K C
 f:Addr
 fd:FuncData
 fn:Fun K "__init__" qual st f fd
 bd:Binds K fd ps []
 mkx:Mk K C f
def CodeAt (K:PySem.W.Frag) (x:Str) (st:Stmt) (f:Addr) (fd:FuncData) (c:Addr):Prop:=∃ (oc:Value) (od:Option Addr) (kV doc pm:Value) (an:Option Addr) (ct:Value) (osl:Array (Option Value)),
  fd=PySem.W.fnOf x x (defArgs st) (defBody st) (defScope st) .none kV doc pm an (.ref c) ct∧K.lookup f=some ⟨oc,od,.func fd,osl⟩∧PySem.W.codeIn K (.ref c) x=true
def formKvs (a:Nat→Addr):List (Key×V):=[(Sum.inr "boat",.ref (a 0)),(Sum.inr "out",.ref (a 1)),(Sum.inr "race",.ref (a 2)),(Sum.inr "place",.ref (a 3)),(Sum.inr "miss",.ref (a 4)),(Sum.inr "dis",.ref (a 5)),(Sum.inr "avg",.ref (a 6)),(Sum.inr "pen",.ref (a 7))]
def countKvs:List (Key×V):=[(Sum.inl 2,.int 0),(Sum.inl 3,.int 0),(Sum.inl 4,.int 3),(Sum.inl 5,.int 2),(Sum.inl 6,.int 2),(Sum.inl 7,.int 3),(Sum.inl 8,.int 2),(Sum.inl 9,.int 1)]
def KT (K:PySem.W.Frag) (a:Addr) (xs:List V):Prop:=∀ H,SqT K H a xs
def KLims (K:PySem.W.Frag) (a:Addr) (ls:List (Nat×Nat)):Prop:=∃ as:List Addr,KT K a (as.map V.ref)∧as.length=ls.length∧∀ (i:Nat) (b:Addr) (l:Nat×Nat),as[i]?=some b→ls[i]?=some l→KT K b [.int (l.1:Int),.int (l.2:Int)]
def KForm (K:PySem.W.Frag) (a:Addr) (b:Bool) (ls:List (Nat×Nat)):Prop:=∃ c,KT K a [.bl b,.ref c]∧KLims K c ls
structure Tx (P:Program) (w:World) (K:PySem.W.Frag) (mg:Str→Option Value) where
 Line:ClsX K mg "Line" "Line.__init__" s_Line_init ["self","word","name","numbers"]
 a_Line_word:NoAttr K Line.C "word"
 a_Line_name:NoAttr K Line.C "name"
 a_Line_numbers:NoAttr K Line.C "numbers"
 Race:ClsX K mg "Race" "Race.__init__" s_Race_init ["self"]
 a_Race_results:NoAttr K Race.C "results"
 a_Race_pens:NoAttr K Race.C "pens"
 Series:ClsX K mg "Series" "Series.__init__" s_Series_init ["self"]
 a_Series_codes:NoAttr K Series.C "codes"
 a_Series_line_count:NoAttr K Series.C "line_count"
 a_Series_boats:NoAttr K Series.C "boats"
 a_Series_outs:NoAttr K Series.C "outs"
 a_Series_races:NoAttr K Series.C "races"
 Desk:ClsX K mg "Desk" "Desk.__init__" s_Desk_init ["self"]
 a_Desk_series:NoAttr K Desk.C "series"
 m_take:Mt K Desk.C "take" "Desk.take" s_Desk_take ["self","codes"]
 m_more:Mt K Desk.C "more" "Desk.more" s_Desk_more ["self","codes"]
 m_hold:Mt K Desk.C "hold" "Desk.hold" s_Desk_hold ["self","series","codes"]
 m_text:Mt K Desk.C "text" "Desk.text" s_Desk_text ["self"]
 m_sizes:Mt K Desk.C "sizes" "Desk.sizes" s_Desk_sizes ["self"]
 m_refusal:Mt K Desk.C "refusal" "Desk.refusal" s_Desk_refusal ["self","r","boats"]
 m_points:Mt K Desk.C "points" "Desk.points" s_Desk_points ["self","r","i","k"]
 m_out:Mt K Desk.C "out" "Desk.out" s_Desk_out ["self","r","i"]
 m_total:Mt K Desk.C "total" "Desk.total" s_Desk_total ["self","r","i"]
 m_before:Mt K Desk.C "before" "Desk.before" s_Desk_before ["self","r","i","j"]
 m_place:Mt K Desk.C "place" "Desk.place" s_Desk_place ["self","r","i"]
 m_order:Mt K Desk.C "order" "Desk.order" s_Desk_order ["self","r"]
 sign_of:Df K mg "sign_of" s_sign_of ["code"]
 parts_of:Df K mg "parts_of" s_parts_of ["codes"]
 is_name:Df K mg "is_name" s_is_name ["part"]
 number_of:Df K mg "number_of" s_number_of ["part","limits"]
 numbers_of:Df K mg "numbers_of" s_numbers_of ["parts","all_limits"]
 read_line:Df K mg "read_line" s_read_line ["codes"]
 race_copy:Df K mg "race_copy" s_race_copy ["race"]
 series_copy:Df K mg "series_copy" s_series_copy ["series"]
 result_word:Df K mg "result_word" s_result_word ["race","boat"]
 may_have_pen:Df K mg "may_have_pen" s_may_have_pen ["race","boat"]
 boat_line_cant_stand:Df K mg "boat_line_cant_stand" s_boat_line_cant_stand ["series","line"]
 cant_stand:Df K mg "cant_stand" s_cant_stand ["series","line"]
 out_clashes:Df K mg "out_clashes" s_out_clashes ["series","line"]
 boat_line_clashes:Df K mg "boat_line_clashes" s_boat_line_clashes ["series","line"]
 clashes:Df K mg "clashes" s_clashes ["series","line"]
 too_much:Df K mg "too_much" s_too_much ["series","line"]
 why_wrong:Df K mg "why_wrong" s_why_wrong ["series","line"]
 put_line:Df K mg "put_line" s_put_line ["series","line"]
 add_text:Df K mg "add_text" s_add_text ["series","codes"]
 greatest_divisor:Df K mg "greatest_divisor" s_greatest_divisor ["one","other"]
 lowest_terms:Df K mg "lowest_terms" s_lowest_terms ["top","bottom"]
 told_fraction:Df K mg "told_fraction" s_told_fraction ["parts"]
 most_points:Df K mg "most_points" s_most_points ["series"]
 own_points:Df K mg "own_points" s_own_points ["series","race","boat"]
 average_points:Df K mg "average_points" s_average_points ["series","r","boat"]
 points_by_race:Df K mg "points_by_race" s_points_by_race ["series","r","boat"]
 out_count:Df K mg "out_count" s_out_count ["series","r"]
 left_out:Df K mg "left_out" s_left_out ["series","boat","points"]
 kept_points:Df K mg "kept_points" s_kept_points ["series","boat","points"]
 boat_score:Df K mg "boat_score" s_boat_score ["series","r","boat"]
 all_scores:Df K mg "all_scores" s_all_scores ["series","r"]
 who_is_before:Df K mg "who_is_before" s_who_is_before ["one","other"]
 place_and_shared:Df K mg "place_and_shared" s_place_and_shared ["series","r","boat"]
 boats_in_order:Df K mg "boats_in_order" s_boats_in_order ["series","r"]
 call_end:Df K mg "call_end" s_call_end ["calls","start"]
 answer:Df K mg "answer" s_answer ["desk","call"]
 answers:Df K mg "answers" s_answers ["calls"]
 g_BLANK:∃ t,mg "BLANK"=some (.int 32 t)
 g_LETTER_A:∃ t,mg "LETTER_A"=some (.int 97 t)
 g_DIGIT_0:∃ t,mg "DIGIT_0"=some (.int 48 t)
 g_LETTERS:∃ t,mg "LETTERS"=some (.str "abcdefghijklmnopqrstuvwxyz" t)
 g_DIGITS:∃ t,mg "DIGITS"=some (.str "0123456789" t)
 g_LONGEST_NAME:∃ t,mg "LONGEST_NAME"=some (.int 12 t)
 g_LONGEST_NUMBER:∃ t,mg "LONGEST_NUMBER"=some (.int 2 t)
 g_LINE_FEED:∃ t,mg "LINE_FEED"=some (.int 10 t)
 g_RIGHT:∃ t,mg "RIGHT"=some (.int 0 t)
 g_NOT_FORMED:∃ t,mg "NOT_FORMED"=some (.int 1 t)
 g_TOO_MUCH:∃ t,mg "TOO_MUCH"=some (.int 2 t)
 g_CANT_STAND:∃ t,mg "CANT_STAND"=some (.int 3 t)
 g_CLASHES:∃ t,mg "CLASHES"=some (.int 4 t)
 g_MOST_BOATS:∃ t,mg "MOST_BOATS"=some (.int 64 t)
 g_MOST_OUTS:∃ t,mg "MOST_OUTS"=some (.int 32 t)
 g_MOST_RACES:∃ t,mg "MOST_RACES"=some (.int 32 t)
 g_PARTS:∃ t,mg "PARTS"=some (.int 288807105787200 t)
 g_TAKE:∃ t,mg "TAKE"=some (.int 0 t)
 g_MORE:∃ t,mg "MORE"=some (.int 1 t)
 g_TEXT:∃ t,mg "TEXT"=some (.int 2 t)
 g_SIZES:∃ t,mg "SIZES"=some (.int 3 t)
 g_POINTS:∃ t,mg "POINTS"=some (.int 4 t)
 g_OUT:∃ t,mg "OUT"=some (.int 5 t)
 g_TOTAL:∃ t,mg "TOTAL"=some (.int 6 t)
 g_BEFORE:∃ t,mg "BEFORE"=some (.int 7 t)
 g_PLACE:∃ t,mg "PLACE"=some (.int 8 t)
 g_GRANTED:∃ t,mg "GRANTED"=some (.int 0 t)
 g_TOO_LONG:∃ t,mg "TOO_LONG"=some (.int (-2) t)
 g_NO_SUCH:∃ t,mg "NO_SUCH"=some (.int (-4) t)
 g_FAULT:∃ t,mg "FAULT"=some (.int (-6) t)
 g_TOO_MANY_RACES:∃ t,mg "TOO_MANY_RACES"=some (.int (-8) t)
 g_MOST_CODES:∃ t,mg "MOST_CODES"=some (.int 65536 t)
 aF:Addr
 aT:Nat→Addr
 g_FORMS:mg "FORMS"=some (.ref aF)
 forms:KD P w K aF (formKvs aT)
 form0:KForm K (aT 0) true []
 form1:KForm K (aT 1) false [(1,32),(0,31)]
 form2:KForm K (aT 2) false []
 form3:KForm K (aT 3) true [(1,64),(1,64)]
 form4:KForm K (aT 4) true []
 form5:KForm K (aT 5) true []
 form6:KForm K (aT 6) true []
 form7:KForm K (aT 7) true [(1,99)]
 aN:Addr
 g_COUNTS:mg "NUMBER_COUNTS"=some (.ref aN)
 counts:KD P w K aN countKvs
 n_len:mg "len"=none
 n_list:mg "list"=none
 n_dict:mg "dict"=none
 n_int:mg "int"=none
 n_min:mg "min"=none
 n_sum:mg "sum"=none
 n_sorted:mg "sorted"=none
 n_range:mg "range"=none
 n_reversed:mg "reversed"=none
 n_zip:mg "zip"=none
 t1:Addr
 c1:Addr
 hd1:PySem.W.codeHdIn K c1 t1=true
 t2:Addr
 c2:Addr
 hd2:PySem.W.codeHdIn K c2 t2=true
 t12:t1≠t2
 code1:CodeAt K "left_out" s_left_out left_out.f left_out.fd c1
 code2:CodeAt K "boats_in_order" s_boats_in_order boats_in_order.f boats_in_order.fd c2
section
variable {X:Cx}
theorem pe_gi {x:Str} {n:Int} {pos:Pos} (h:∃ t,X.mg x=some (.int n t)) (hg:Gl X x) (hd:(x==("__debug__":Str))=false:=by decide):PE X (.Name x pos) (tC (.int n)):=by
 obtain ⟨t,h⟩:=h
 exact pe_glob hg h ⟨t,rfl⟩ hd
theorem pe_gs {x:Str} {n:Str} {pos:Pos} (h:∃ t,X.mg x=some (.str n t)) (hg:Gl X x) (hd:(x==("__debug__":Str))=false:=by decide):PE X (.Name x pos) (tC (.str n)):=by
 obtain ⟨t,h⟩:=h
 exact pe_glob hg h ⟨t,rfl⟩ hd
theorem pe_gr {x:Str} {a:Addr} {pos:Pos} (h:X.mg x=some (.ref a)) (hg:Gl X x) (hd:(x==("__debug__":Str))=false:=by decide):PE X (.Name x pos) (tC (.ref a)):=pe_glob hg h rfl hd
end
end Rv
end
section
namespace Rv
open PySem
open RgScore (Bytes Name Line Series cutAt spaced natIn ascii)
def strOf (b:Bytes):Str:=⟨(b.map UInt8.toNat).toArray⟩
theorem strOf_len (b:Bytes):(strOf b).length=b.length:=by
 show (b.map UInt8.toNat).toArray.size=b.length
 simp
theorem u8_inj:∀ {a b:Bytes},a.map UInt8.toNat=b.map UInt8.toNat→a=b
 | [],[],_=>rfl
 | [],_::_,h=>by simp at h
 | _::_,[],h=>by simp at h
 | x::a,y::b,h=>by
  simp only [List.map_cons,List.cons.injEq] at h
  rw [u8_inj h.2,UInt8.toNat_inj.mp h.1]
theorem strOf_inj {a b:Bytes} (h:strOf a=strOf b):a=b:=by
 have h2:(b.map UInt8.toNat).toArray=(a.map UInt8.toNat).toArray:=congrArg Str.cps h.symm
 exact u8_inj (by simpa using h2.symm)
theorem w_boat:strOf (ascii "boat")="boat":=by decide +kernel
theorem w_out:strOf (ascii "out")="out":=by decide +kernel
theorem w_race:strOf (ascii "race")="race":=by decide +kernel
theorem w_place:strOf (ascii "place")="place":=by decide +kernel
theorem w_miss:strOf (ascii "miss")="miss":=by decide +kernel
theorem w_dis:strOf (ascii "dis")="dis":=by decide +kernel
theorem w_avg:strOf (ascii "avg")="avg":=by decide +kernel
theorem w_pen:strOf (ascii "pen")="pen":=by decide +kernel
theorem w_nil:strOf []="":=by decide +kernel
theorem w_blank:(" ":Str)=⟨#[32]⟩:=by decide +kernel
def back (p:Str):Bytes:=p.cps.toList.map UInt8.ofNat
theorem back_cat (p q:Str):back (p++q)=back p++back q:=by
 show (p.cps++q.cps).toList.map UInt8.ofNat=_
 rw [Array.toList_append,List.map_append]
 rfl
theorem join_back:∀ ps:List Str,spaced (ps.map back)=back (Str.join ⟨#[32]⟩ ps)
 | []=>rfl
 | [p]=>rfl
 | p::q::r=>by
  show back p++(32::spaced ((q::r).map back))=back (p++⟨#[32]⟩++Str.join ⟨#[32]⟩ (q::r))
  rw [join_back (q::r),back_cat,back_cat,List.append_assoc]
  rfl
theorem back_strOf (b:Bytes):back (strOf b)=b:=by
 show ((b.map UInt8.toNat).toArray.toList).map UInt8.ofNat=b
 rw [List.toList_toArray,List.map_map]
 conv=>rhs; rw [←List.map_id b]
 refine List.map_congr_left fun c _=>?_
 show UInt8.ofNat c.toNat=c
 simp
theorem strOf_back {p:Str} (h:∀ x∈p.cps.toList,x < 256):strOf (back p)=p:=by
 have e:(back p).map UInt8.toNat=p.cps.toList:=by
  unfold back
  rw [List.map_map]
  conv=>rhs; rw [←List.map_id p.cps.toList]
  refine List.map_congr_left fun c hc=>?_
  show (UInt8.ofNat c).toNat=c
  have:=h c hc
  simp
  omega
 show (⟨((back p).map UInt8.toNat).toArray⟩:Str)=p
 rw [e]
theorem join_mem:∀ {ps:List Str} {p:Str} {x:Nat} {sep:Str},p∈ps→x∈p.cps.toList→x∈(Str.join sep ps).cps.toList
 | [q],p,x,sep,h,hx=>by
  rw [List.mem_singleton.mp h] at hx
  exact hx
 | q::r::t,p,x,sep,h,hx=>by
  show x∈(q.cps++sep.cps++(Str.join sep (r::t)).cps).toList
  rw [Array.toList_append,Array.toList_append]
  rcases List.mem_cons.mp h with h | h
  ·rw [h] at hx
   exact List.mem_append_left _ (List.mem_append_left _ hx)
  ·exact List.mem_append_right _ (join_mem h hx)
theorem split_ne (x y:Str):Txt.split x y≠[]:=by
 unfold Txt.split
 split
 ·simp
 ·split
  ·simp
  ·rw [StrLaws.partsBetween_eq]
   obtain ⟨p,q,e⟩:=StrLaws.partsFrom_ne x y.length 0 (Builtin.Str.occurrences x y 0 x.length (x.length + 1))
   rw [e]
   simp
theorem split_eq (b:Bytes):Txt.split (strOf b) " "=(cutAt 32 b).map strOf:=by
 rw [w_blank]
 have hj:=StrLaws.join_split (strOf b) ⟨#[32]⟩
 have hm:∀ p∈Txt.split (strOf b) ⟨#[32]⟩,∀ x∈p.cps.toList,x < 256:=fun p hp x hx=>by
  have:=join_mem (sep:=⟨#[32]⟩) hp hx
  rw [hj] at this
  have h2:x∈b.map UInt8.toNat:=by simpa [strOf] using this
  obtain ⟨c,_,rfl⟩:=List.mem_map.mp h2
  exact c.toNat_lt
 have e1:spaced ((Txt.split (strOf b) ⟨#[32]⟩).map back)=b:=by rw [join_back,hj,back_strOf]
 have e2:cutAt 32 b=(Txt.split (strOf b) ⟨#[32]⟩).map back:=by
  conv=>lhs; rw [←e1]
  refine Rc.cut_spaced (by simpa using split_ne _ _) fun w hw h32=>?_
  obtain ⟨p,hp,rfl⟩:=List.mem_map.mp hw
  obtain ⟨x,hx,ex⟩:=List.mem_map.mp h32
  have hl:=hm p hp x hx
  have:x=32:=by
   have:=congrArg UInt8.toNat ex
   simp at this
   omega
  subst this
  exact StrLaws.split_free (strOf b) 32 p hp hx
 rw [e2,List.map_map]
 conv=>lhs; rw [←List.map_id (Txt.split (strOf b) ⟨#[32]⟩)]
 exact List.map_congr_left fun p hp=>(strOf_back (hm p hp)).symm
theorem join_nil:∀ b:Bytes,Str.join "" (b.map fun c=>strOf [c])=strOf b
 | []=>by decide +kernel
 | [c]=>rfl
 | c::d::b=>by
  show strOf [c]++("":Str)++Str.join "" ((d::b).map fun c=>strOf [c])=_
  rw [join_nil (d::b),←w_nil]
  show (⟨(strOf [c]).cps++(strOf []).cps++(strOf (d::b)).cps⟩:Str)=strOf (c::d::b)
  simp [strOf]
theorem join_eq (b:Bytes):Txt.join "" (b.map fun c=>strOf [c])=strOf b:=by
 show Builtin.Str.glued "" _=_
 rw [StrLaws.glued_eq_join,join_nil]
theorem digit_all:∀ c:Fin 256,Rc.nameSign (UInt8.ofNat c.val)=true→Unicode.isDigit c.val=Rc.isDig (UInt8.ofNat c.val):=by decide +kernel
theorem digit_one {c:UInt8} (h:Rc.nameSign c=true):Unicode.isDigit c.toNat=Rc.isDig c:=by
 have:=digit_all ⟨c.toNat,c.toNat_lt⟩
 simp only [UInt8.ofNat_toNat] at this
 exact this h
theorem isdigit_eq {b:Bytes} (h:∀ c∈b,Rc.nameSign c=true):Txt.isdigit (strOf b)=(decide (b≠[]) && b.all Rc.isDig):=by
 show (decide ((strOf b).length > 0) && (b.map UInt8.toNat).toArray.all Unicode.isDigit)=_
 rw [strOf_len]
 have e1:decide (b.length > 0)=decide (b≠[]):=by cases b <;> simp
 have e2:(b.map UInt8.toNat).toArray.all Unicode.isDigit=b.all Rc.isDig:=by
  rw [List.all_toArray,List.all_map]
  induction b with
  | nil=>rfl
  | cons c b ih =>
   rw [List.all_cons,List.all_cons,ih (fun d hd=>h d (List.mem_cons_of_mem _ hd)) (by cases b <;> simp)]
   congr 1
   exact digit_one (h c List.mem_cons_self)
 rw [e1,e2]
theorem int_one:∀ i:Fin 10,PySem.intText? (strOf [Rc.dig i])=some ((natIn [Rc.dig i]:Nat):Int):=by decide +kernel
theorem int_two:∀ i j:Fin 10,PySem.intText? (strOf [Rc.dig i,Rc.dig j])=some ((natIn [Rc.dig i,Rc.dig j]:Nat):Int):=by decide +kernel
theorem int_eq {b:Bytes} (h0:b≠[]) (h2:b.length≤2) (h:b.all Rc.isDig=true):PySem.intText? (strOf b)=some ((natIn b:Nat):Int):=by
 match b,h0,h2,h with
 | [c],_,_,h =>
  obtain ⟨i,rfl⟩:=Rc.dig_of (List.all_eq_true.mp h c (by simp))
  exact int_one i
 | [c,d],_,_,h =>
  obtain ⟨i,rfl⟩:=Rc.dig_of (List.all_eq_true.mp h c (by simp))
  obtain ⟨j,rfl⟩:=Rc.dig_of (List.all_eq_true.mp h d (by simp))
  exact int_two i j
 | _::_::_::_,_,h2,_=>simp at h2
end Rv
end
section
namespace Rv
open PySem PySem.Spec PyProof.Rows L2
def Ev (t:TE) (σ:L2.St) (H:Hp) (v:V):Prop:=∀ Q:VK,Q v H→t σ H Q
def EvT (t:TT) (σ:L2.St) (H:Hp) (b:Bool):Prop:=∀ Q:Bool→Hp→Prop,Q b H→t σ H Q
def EvA (t:TA) (σ:L2.St) (H:Hp) (vs:List V):Prop:=∀ Q:List V→Hp→Prop,Q vs H→t σ H Q
section
variable {σ:L2.St} {H:Hp} {t ta tb tc:TE} {tt tu:TT} {i j k:Int} {x y v:V} {b c:Bool} {K:PySem.W.Frag}
theorem ev_var {n:Nat} (h:σ[n]?=some (some v)):Ev (tVar n) σ H v:=fun Q q=>⟨v,h,q⟩
theorem ev_c:Ev (tC v) σ H v:=fun Q q=>q
theorem ev_i0 {g:Int→Int→V} (a:Ev ta σ H (.int i)) (b:Ev tb σ H (.int j)):Ev (tOp (rI0 g) ta tb) σ H (g i j):=fun Q q=>a _ (b _ ⟨i,j,rfl,rfl,q⟩)
theorem ev_iC {C:Int→Int→Prop} {g:Int→Int→V} (a:Ev ta σ H (.int i)) (b:Ev tb σ H (.int j)) (h:C i j):Ev (tOp (rI C g) ta tb) σ H (g i j):=fun Q q=>a _ (b _ ⟨i,j,rfl,rfl,h,q⟩)
theorem ev_mul (a:Ev ta σ H (.int i)) (b:Ev tb σ H (.int j)) (h:CMul i j):Ev (tOp (rI CMul fun i j=>.int (i * j)) ta tb) σ H (.int (i * j)):=ev_iC a b h
theorem ev_fdiv (a:Ev ta σ H (.int i)) (b:Ev tb σ H (.int j)) (h:CDiv i j):Ev (tOp (rI CDiv fun i j=>.int (i / j)) ta tb) σ H (.int (i / j)):=ev_iC a b h
theorem ev_add (a:Ev ta σ H (.int i)) (b:Ev tb σ H (.int j)):Ev (tOp (rI0 fun i j=>.int (i + j)) ta tb) σ H (.int (i + j)):=ev_i0 a b
theorem ev_sub (a:Ev ta σ H (.int i)) (b:Ev tb σ H (.int j)):Ev (tOp (rI0 fun i j=>.int (i - j)) ta tb) σ H (.int (i - j)):=ev_i0 a b
theorem ev_eq (a:Ev ta σ H x) (b:Ev tb σ H y) (h:scal x y=true:=by rfl):Ev (tOp rEq ta tb) σ H (.bl (decide (x=y))):=fun Q q=>a _ (b _ ⟨h,q⟩)
theorem ev_ne (a:Ev ta σ H x) (b:Ev tb σ H y) (h:scal x y=true:=by rfl):Ev (tOp rNe ta tb) σ H (.bl (!decide (x=y))):=fun Q q=>a _ (b _ ⟨h,q⟩)
theorem ev_isN (a:Ev ta σ H x) (b:Ev tb σ H .non):Ev (tOp (fun x y H Q=>y=.non∧Q (.bl (decide (x=.non))) H) ta tb) σ H (.bl (decide (x=.non))):=fun Q q=>a _ (b _ ⟨rfl,q⟩)
theorem ev_un {g:Int→V} (a:Ev ta σ H (.int i)):Ev (tUn (rU g) ta) σ H (g i):=fun Q q=>a _ ⟨i,rfl,q⟩
theorem evt_test (a:Ev t σ H (.bl b)):EvT (tTest t) σ H b:=fun Q q=>a _ ⟨b,rfl,q⟩
theorem evt_B (a:Ev t σ H (.bl b)):EvT (tB t) σ H b:=fun Q q=>a _ ⟨b,rfl,q⟩
theorem evt_or (a:EvT tt σ H b) (d:b=false→EvT tu σ H c):EvT (tOr tt tu) σ H (b || c):=fun Q q=>a _ (by
 cases b with
 | true=>exact iteT q
 | false=>exact iteF (d rfl _ q))
theorem evt_and (a:EvT tt σ H b) (d:b=true→EvT tu σ H c):EvT (tAnd tt tu) σ H (b && c):=fun Q q=>a _ (by
 cases b with
 | true=>exact iteT (d rfl _ q)
 | false=>exact iteF q)
theorem evt_not (a:EvT tt σ H b):EvT (tNot tt) σ H (!b):=fun Q q=>a _ q
theorem ev_or (a:Ev ta σ H (.bl b)) (d:b=false→Ev tb σ H (.bl c)):Ev (tOrV ta tb) σ H (.bl (b || c)):=fun Q q=>a _ ⟨b,rfl,by
 cases b with
 | true=>exact iteT q
 | false=>exact iteF (d rfl _ q)⟩
theorem ev_and (a:Ev ta σ H (.bl b)) (d:b=true→Ev tb σ H (.bl c)):Ev (tAndV ta tb) σ H (.bl (b && c)):=fun Q q=>a _ ⟨b,rfl,by
 cases b with
 | true=>exact iteT (d rfl _ q)
 | false=>exact iteF q⟩
theorem ev_chain {p q:Int→Int→Prop} [∀ i j,Decidable (p i j)] [∀ i j,Decidable (q i j)] (a:Ev ta σ H (.int i)) (b:Ev tb σ H (.int j)) (c:Ev tc σ H (.int k)) :
  Ev (tChain (rI0 fun i j=>.bl (decide (p i j))) (rI0 fun i j=>.bl (decide (q i j))) ta tb tc) σ H (.bl (decide (p i j) && decide (q j k))):=fun Q h=>a _ (b _ ⟨i,j,rfl,rfl,_,rfl,by
 cases e:decide (p i j) with
 | true =>
  rw [e] at h
  exact iteT (c _ ⟨j,k,rfl,rfl,h⟩)
 | false =>
  rw [e] at h
  exact iteF h⟩)
theorem eva_nil:EvA tNil σ H []:=fun Q q=>q
theorem eva_cons {vs:List V} {r:TA} (a:Ev t σ H v) (b:EvA r σ H vs):EvA (tCons t r) σ H (v::vs):=fun Q q=>a _ (b _ q)
theorem ev_cb {r:List V→Hp→VK→Prop} {ar:TA} {vs:List V} (a:EvA ar σ H vs) (h:∀ Q:VK,Q v H→r vs H Q):Ev (tCB r ar) σ H v:=fun Q q=>a _ (h Q q)
theorem ev_lenL {p:Addr} {ys:List V} (a:Ev t σ H (.ref p)) (h:SqL K H p ys):Ev (tCB (fun xs H Q=>∃ p ys,xs=[.ref p]∧(SqL K H p ys∨SqT K H p ys)∧Q (.int ys.length) H) (tCons t tNil)) σ H (.int ys.length) :=
 ev_cb (eva_cons a eva_nil) fun Q q=>⟨p,ys,rfl,.inl h,q⟩
theorem ev_lenT {p:Addr} {ys:List V} (a:Ev t σ H (.ref p)) (h:SqT K H p ys):Ev (tCB (fun xs H Q=>∃ p ys,xs=[.ref p]∧(SqL K H p ys∨SqT K H p ys)∧Q (.int ys.length) H) (tCons t tNil)) σ H (.int ys.length) :=
 ev_cb (eva_cons a eva_nil) fun Q q=>⟨p,ys,rfl,.inr h,q⟩
theorem ev_lenS {z:Str} (a:Ev t σ H (.str z)) (h:z.length≤sizeLine):Ev (tCB (fun xs H Q=>∃ z,xs=[.str z]∧z.length≤sizeLine∧Q (.int z.length) H) (tCons t tNil)) σ H (.int z.length) :=
 ev_cb (eva_cons a eva_nil) fun Q q=>⟨z,rfl,h,q⟩
theorem ev_lenD {p:Addr} {kvs:List (Key×V)} (a:Ev t σ H (.ref p)) (h:H p=some (.dK kvs)):Ev (tCB (fun xs H Q=>∃ a kvs,xs=[V.ref a]∧H a=some (.dK kvs)∧Q (.int kvs.length) H) (tCons t tNil)) σ H (.int kvs.length) :=
 ev_cb (eva_cons a eva_nil) fun Q q=>⟨p,kvs,rfl,h,q⟩
theorem ev_fld {f:Str} {p C dx:Addr} {fs:List (Str×V)} (a:Ev ta σ H (.ref p)) (h:H p=some (.ins C dx fs)) (c:Cls K C) (n:NoAttr K C f) (l:fs.lookup f=some v):Ev (tFld K ta f) σ H v:=fun Q q=>a _ ⟨p,C,dx,fs,v,rfl,h,c,n,l,q⟩
theorem ev_ixL {p:Addr} {xs:List V} (a:Ev ta σ H (.ref p)) (b:Ev tb σ H (.int i)) (h:SqL K H p xs) (e:atI xs i=some v):Ev (tOp (rIxL K) ta tb) σ H v:=fun Q q=>a _ (b _ ⟨p,xs,i,v,rfl,rfl,h,e,q⟩)
theorem ev_ixT {p:Addr} {xs:List V} (a:Ev ta σ H (.ref p)) (b:Ev tb σ H (.int i)) (h:SqT K H p xs) (e:atI xs i=some v):Ev (tOp (rIxT K) ta tb) σ H v:=fun Q q=>a _ (b _ ⟨p,xs,i,v,rfl,rfl,h,e,q⟩)
theorem ev_ixS {z:Str} {c:Nat} (a:Ev ta σ H (.str z)) (b:Ev tb σ H (.int i)) (h:z.length≤sizeLine) (e:atI z.cps.toList i=some c):Ev (tOp rIxS ta tb) σ H (.str ⟨#[c]⟩):=fun Q q=>a _ (b _ ⟨z,i,c,rfl,rfl,h,e,q⟩)
theorem ev_dget {p:Addr} {kvs:List (Key×V)} {k:Key} (a:Ev ta σ H (.ref p)) (b:Ev tb σ H (kV k)) (h:H p=some (.dK kvs)) (e:valV kvs k=some v):Ev (tDGet ta tb) σ H v:=fun Q q=>a _ (b _ ⟨p,v,rfl,by rw [←e]; exact DGet.k h,q⟩)
theorem ev_din {p:Addr} {kvs:List (Key×V)} {k:Key} (b:Ev tb σ H (kV k)) (a:Ev ta σ H (.ref p)) (h:H p=some (.dK kvs)):Ev (tDIn tb ta) σ H (.bl (valV kvs k).isSome):=fun Q q=>b _ (a _ ⟨p,_,rfl,DGet.k h,q⟩)
theorem ev_dnotin {p:Addr} {kvs:List (Key×V)} {k:Key} (b:Ev tb σ H (kV k)) (a:Ev ta σ H (.ref p)) (h:H p=some (.dK kvs)):Ev (tDNotIn tb ta) σ H (.bl (!(valV kvs k).isSome)):=fun Q q=>b _ (a _ ⟨p,_,rfl,DGet.k h,q⟩)
theorem ev_call {sp:Sp} {E:XK} {ar:TA} {vs:List V} (a:EvA ar σ H vs) (h:∀ Q:VK,Q v H→sp (vs++[]) H Q E):Ev (tCall sp [] E ar) σ H v:=fun Q q=>a _ (h Q q)
theorem rd_if {t u:TS} {D:Ends} (e:EvT tt σ H b) (h1:b=true→t D σ H) (h2:b=false→u D σ H):tIfS tt t u D σ H:=e _ (by
 cases b with
 | true=>exact iteT (h1 rfl)
 | false=>exact iteF (h2 rfl))
end
section
variable {X:Cx}
def CDivW (i j:Int):Prop:=0 < j∧j < 2 ^ 64
theorem op_fdivW:OpR X (binaryOp .FloorDiv) (rI CDivW fun i j=>.int (i / j)):=opI fun i j _ _ _ _ _ hc q=>by
 have h1:(0:Int) < j:=hc.1
 have h2:j < 2 ^ 64:=hc.2
 refine floordiv_int (by omega) (by rw [Int.fdiv_eq_ediv_of_nonneg i (by omega)]; exact q) (.inl (PyProof.noPylong_of_log2 ?_))
 have h3:j.natAbs < 2 ^ 64:=by omega
 have:j.natAbs.log2 < 64:=(Nat.log2_lt (by omega)).mpr h3
 omega
end
end Rv
end
section
namespace Rv
open PySem PySem.Spec PyProof.Rows L2
open RgScore (Bytes Name Line Series cutAt spaced natIn ascii)
section
variable {P:Program} {w:World} {K:PySem.W.Frag} {mg:Str→Option Value} {base:Heap}
theorem bt2 {a b:Prop} [Decidable a] [Decidable b] (h:(decide a && decide b)=true):a∧b:=by simpa using h
theorem bf2 {a b:Prop} [Decidable a] [Decidable b] (h:(decide a && decide b)=false):¬ (a∧b):=fun e=>by
 rw [decide_eq_true e.1,decide_eq_true e.2] at h
 cases h
theorem _root_.L2.Same.new {H:Hp} {p:Addr} {o:HO} (h:H p=none):Same H (upd H p o):=fun b u e=>by rw [upd_ne (ne_of_none e h)]; exact e
theorem _root_.L2.Same.put {H H':Hp} {p:Addr} {o:HO} (s:Same H H') (h:H p=none):Same H (upd H' p o):=fun b u e=>by rw [upd_ne (ne_of_none e h)]; exact s b u e
def bytesV (b:Bytes):List V:=b.map fun c=>V.int (c.toNat:Int)
def strsV (ws:List Bytes):List V:=ws.map fun w=>V.str (strOf w)
theorem bytesV_get {b:Bytes} {i:Nat} {y:V} (h:(bytesV b)[i]?=some y):∃ c,b[i]?=some c∧y=.int (c.toNat:Int):=by
 unfold bytesV at h
 rw [List.getElem?_map] at h
 cases e:b[i]? with
 | none=>rw [e] at h; cases h
 | some c =>
  rw [e] at h
  exact ⟨c,rfl,(Option.some.inj h).symm⟩
theorem take_snoc {α:Type} {l:List α} {i:Nat} {x:α} (h:l[i]?=some x):l.take (i + 1)=l.take i++[x]:=by
 rw [List.take_add_one,h]
 rfl
theorem line10 {n:Nat} (h:n≤10000000):n≤sizeLine:=by rw [sizeLine_eq]; omega
theorem line10' {n:Nat} (h:n < 10000000):n < sizeLine:=by rw [sizeLine_eq]; omega
def signV (c:UInt8):V:=if Rc.legal c=true then .str (strOf [c]) else .non
def spSign:Sp:=fun vs H Q _=>∃ c:UInt8,vs=[.int (c.toNat:Int)]∧Q (signV c) H
theorem lett_all:∀ k:Fin 26,("abcdefghijklmnopqrstuvwxyz":Str).cps.toList[k.val]?=some (97 + k.val):=by decide +kernel
theorem digs_all:∀ k:Fin 10,("0123456789":Str).cps.toList[k.val]?=some (48 + k.val):=by decide +kernel
theorem at_ix {α:Type} {xs:List α} {z:Int} {j:Nat} {v:α} (e:z=(j:Int)) (h:xs[j]?=some v):atI xs z=some v:=by
 rw [e]
 exact atI_nat h
theorem sign_pos {c:UInt8} (h:Rc.legal c=true):signV c=.str ⟨#[c.toNat]⟩:=by
 unfold signV
 rw [if_pos h]
 rfl
theorem legal_iff (c:UInt8):Rc.legal c=true↔c.toNat=32∨(97≤c.toNat∧c.toNat≤122)∨(48≤c.toNat∧c.toNat≤57):=by
 unfold Rc.legal Rc.nameSign
 simp only [Bool.or_eq_true,Bool.and_eq_true,decide_eq_true_eq]
 have e1:(c=32)↔c.toNat=32:=by
  rw [←UInt8.toNat_inj]; rfl
 rw [e1]
 exact Iff.rfl
theorem scSign:FnScope ["code"] ["code"] (defScope s_sign_of):=⟨rfl,rfl,rfl,by decide +kernel,rfl,by decide +kernel,by decide +kernel⟩
theorem ok_sign (T:Tx P w K mg):FnOk P w K mg base CX0 1 T.sign_of.f T.sign_of.fd ["code"] spSign:=by
 have nd:=scSign.nd
 refine T.sign_of.fn.ok scSign (fun vs H Q E h=>?_) (fun cdv A outer s H vs Q E hr h=>?_)
 ·obtain ⟨c,rfl,_⟩:=h
  rfl
 obtain ⟨c,rfl,q⟩:=h
 refine ⟨_,pss_cons (ps_if (pt_cmpR op_eq (pv 0) (pe_gi T.g_BLANK rfl) (nomark _)) (pss_one (ps_ret pe_str)) pss_nil)
  (pss_cons (ps_if (pt_chain op_le op_lt (pe_gi T.g_LETTER_A rfl) (pv 0) (pe_op op_add (pe_gi T.g_LETTER_A rfl) (pe_callB call_len_str (by rfl) T.n_len PySem.boot_len (pa_cons (pe_gs T.g_LETTERS rfl) pa_nil))))
   (pss_one (ps_ret (pe_ix ix_str (pe_gs T.g_LETTERS rfl) (pe_op op_sub (pv 0) (pe_gi T.g_LETTER_A rfl)) (fun _ _=>rfl)))) pss_nil)
  (pss_cons (ps_if (pt_chain op_le op_lt (pe_gi T.g_DIGIT_0 rfl) (pv 0) (pe_op op_add (pe_gi T.g_DIGIT_0 rfl) (pe_callB call_len_str (by rfl) T.n_len PySem.boot_len (pa_cons (pe_gs T.g_DIGITS rfl) pa_nil))))
   (pss_one (ps_ret (pe_ix ix_str (pe_gs T.g_DIGITS rfl) (pe_op op_sub (pv 0) (pe_gi T.g_DIGIT_0 rfl)) (fun _ _=>rfl)))) pss_nil)
  (pss_one (ps_ret pe_non)))),?_⟩
 have l26:("abcdefghijklmnopqrstuvwxyz":Str).length=26:=by decide +kernel
 have l10:("0123456789":Str).length=10:=by decide +kernel
 have sz:("abcdefghijklmnopqrstuvwxyz":Str).length≤sizeLine:=by rw [sizeLine_eq]; decide
 have sz2:("0123456789":Str).length≤sizeLine:=by rw [sizeLine_eq]; decide
 have V0:Ev (tVar 0) (L2.start ["code"] [V.int (c.toNat:Int)]) H (.int (c.toNat:Int)):=ev_var rfl
 refine rd_if (evt_test (ev_eq V0 ev_c)) (fun h=>?_) fun h=>?_
 ·have e:(c.toNat:Int)=32:=by simpa using h
  have hl:Rc.legal c=true:=(legal_iff c).mpr (.inl (by omega))
  have e2:signV c=.str " ":=by rw [sign_pos hl,show c.toNat=32 by omega,w_blank]
  rw [e2] at q
  exact q
 have n32:c.toNat≠32:=fun e=>by rw [e] at h; cases h
 refine rd_if (evt_test (ev_chain ev_c V0 (ev_i0 ev_c (ev_lenS ev_c sz)))) (fun h=>?_) fun h=>?_
 ·rw [l26] at h
  have h':(97:Int)≤c.toNat∧(c.toNat:Int) < 97 + 26:=by simpa using h
  have hl:Rc.legal c=true:=(legal_iff c).mpr (.inr (.inl (by omega)))
  rw [sign_pos hl] at q
  refine ev_ixS ev_c (ev_i0 V0 ev_c) sz (at_ix (j:=c.toNat - 97) (v:=c.toNat) (by omega) ?_) _ q
  have:=lett_all ⟨c.toNat - 97,by omega⟩
  rw [this]
  exact congrArg some (by show 97 + (c.toNat - 97)=c.toNat; omega)
 rw [l26] at h
 have nlo:=bf2 h
 refine rd_if (evt_test (ev_chain ev_c V0 (ev_i0 ev_c (ev_lenS ev_c sz2)))) (fun h=>?_) fun h=>?_
 ·rw [l10] at h
  have h':(48:Int)≤c.toNat∧(c.toNat:Int) < 48 + 10:=by simpa using h
  have hl:Rc.legal c=true:=(legal_iff c).mpr (.inr (.inr (by omega)))
  rw [sign_pos hl] at q
  refine ev_ixS ev_c (ev_i0 V0 ev_c) sz2 (at_ix (j:=c.toNat - 48) (v:=c.toNat) (by omega) ?_) _ q
  have:=digs_all ⟨c.toNat - 48,by omega⟩
  rw [this]
  exact congrArg some (by show 48 + (c.toNat - 48)=c.toNat; omega)
 rw [l10] at h
 have ndi:=bf2 h
 have hl:¬ Rc.legal c=true:=fun e=>by
  rcases (legal_iff c).mp e with e | e | e <;> omega
 have e2:signV c=.non:=by unfold signV; rw [if_neg hl]
 rw [e2] at q
 exact q
def spParts:Sp:=fun vs H Q _=>∃ (a:Addr) (b:Bytes),vs=[.ref a]∧H a=some (.lst (bytesV b))∧b.length≤70000∧(Rc.partsB b=none→∀ H',Same H H'→Q .non H') ∧
 ∀ ws,Rc.partsB b=some ws→∀ (H':Hp) (p:Addr),Same H H'→H p=none→H' p=some (.lst (strsV ws))→Q (.ref p) H'
theorem scParts:FnScope ["codes","signs","code","sign"] ["codes"] (defScope s_parts_of):=⟨rfl,rfl,rfl,by decide +kernel,rfl,by decide +kernel,by decide +kernel⟩
theorem all_take {b:Bytes} {i:Nat} {c:UInt8} {p:UInt8→Bool} (h:(b.take i).all p=true) (hi:b[i]?=some c) (hc:p c=true):(b.take (i + 1)).all p=true:=by
 rw [take_snoc hi,List.all_append,h]
 simp [hc]
theorem ok_parts (T:Tx P w K mg):FnOk P w K mg base CX0 2 T.parts_of.f T.parts_of.fd ["codes"] spParts:=by
 have nd:=scParts.nd
 have G:=ok_sign (base:=base) T
 refine T.parts_of.fn.ok scParts (fun vs H Q E h=>?_) (fun cdv A outer s H vs Q E hr h=>?_)
 ·obtain ⟨a,b,rfl,_⟩:=h
  rfl
 obtain ⟨a,b,rfl,ha,hz,q0,q1⟩:=h
 refine ⟨_,pss_cons (ps_set (i:=1) nd rfl (Or.inl rfl) (pe_lst pa_nil))
  (pss_cons (ps_for PassesOwn.never rfl (pi_list (pv 0)) (pg_name (i:=2) nd rfl (Or.inl rfl))
   (pss_cons (ps_set (i:=3) nd rfl (Or.inl rfl) (pe_call G (hr.mono (by decide)) rfl T.sign_of.gl T.sign_of.fn.kp T.sign_of.bd .nil pass0 (pa_cons (pv 2) pa_nil)))
   (pss_cons (ps_if (pt_cmpR op_isN (pv 3) pe_non (nomark _)) (pss_one (ps_ret pe_non)) pss_nil)
   (pss_one (ps_expr (pe_bm PySem.F.plainAttrs_list PySem.F.slot_list_append PySem.F.type_list_append mt_append (pv 1) (pa_cons (pv 3) pa_nil)))))))
  (pss_one (ps_ret (pe_split (pe_join pe_str (pv 1)) pe_str)))),?_⟩
 refine ⟨Nat.zero_le _,fun l hl=>?_⟩
 have s0:Same H (upd H l (.lst [])):=Same.new hl
 refine ⟨_,rfl,a,rfl,⟨_,SqL.of (s0 _ _ ha)⟩,for_list (K:=K) (a:=a) (xs:=bytesV b) (fun i σ H'=>∃ v2 v3:Option V,σ=[some (.ref a),some (.ref l),v2,v3]∧Same H H'∧H' l=some (.lst ((b.take i).map fun c=>V.str (strOf [c])))∧(b.take i).all Rc.legal=true)
  ⟨none,none,rfl,s0,upd_same,by simp⟩ (fun i σ H' _ ⟨_,_,_,s1,_⟩=>SqL.of (s1 _ _ ha)) ?_ ?_⟩
 ·rintro i y σ H' hi ⟨v2,v3,rfl,s1,h1,hal⟩
  obtain ⟨c,hc,rfl⟩:=bytesV_get hi
  refine ⟨_,rfl,c,rfl,?_⟩
  refine rd_if (b:=decide (signV c=.non)) (evt_test (ev_isN (ev_var rfl) ev_c)) (fun h=>?_) fun h=>?_
  ·have hn:¬ Rc.legal c=true:=fun e=>by
    rw [sign_pos e] at h
    cases of_decide_eq_true h
   refine q0 ?_ H' s1
   unfold Rc.partsB
   rw [if_neg fun e=>hn (List.all_eq_true.mp e c (List.mem_of_getElem? hc))]
  ·have hc1:Rc.legal c=true:=Classical.byContradiction fun e=>by
    have:signV c=.non:=by unfold signV; rw [if_neg e]
    rw [this] at h
    cases h
   have e:signV c=.str (strOf [c]):=by unfold signV; rw [if_pos hc1]
   refine ⟨_,rfl,.inl ⟨rfl,_,SqL.of h1⟩,_,rfl,l,_,_,rfl,rfl,h1,?_,?_⟩
   ·rw [List.length_map,List.length_take]
    exact line10' (by omega)
   ·refine ⟨_,_,rfl,s1.put hl,?_,all_take hal hc hc1⟩
    rw [upd_same,take_snoc hc,List.map_append,e]
    rfl
 ·rintro σ H' ⟨v2,v3,rfl,s1,h1,hal⟩
  have el:(bytesV b).length=b.length:=by unfold bytesV; rw [List.length_map]
  rw [el,List.take_length] at h1 hal
  have ep:Rc.partsB b=some (cutAt 32 b):=by unfold Rc.partsB; rw [if_pos hal]
  have em:(b.map fun c=>strOf [c]).map V.str=b.map fun c=>V.str (strOf [c]):=by rw [List.map_map]; rfl
  refine ⟨⟨_,rfl⟩,_,rfl,_,l,b.map fun c=>strOf [c],rfl,rfl,.inl (by rw [em]; exact SqL.of h1),?_,?_⟩
  ·have e1:((b.map fun c=>strOf [c]).map (·.length)).sum=b.length:=by
    rw [List.map_map]
    clear hz ha q0 q1 h1 hal el ep em
    induction b with
    | nil=>rfl
    | cons c b ih =>
     rw [List.map_cons,List.sum_cons,ih,List.length_cons]
     show (strOf [c]).length + _=_
     rw [strOf_len]
     simp
     omega
   rw [e1,List.length_map,show ("":Str).length=0 by decide +kernel]
   omega
  ·rw [join_eq]
   refine ⟨⟨_,rfl⟩,_,_,rfl,rfl,by decide +kernel,?_,?_⟩
   ·rw [strOf_len]
    exact line10 (by omega)
   ·intro p hp
    rw [split_eq]
    refine q1 _ ep _ p (s1.put (s1.free hp)) (s1.free hp) ?_
    rw [upd_same]
    unfold strsV
    rw [List.map_map]
    rfl
def spIsName:Sp:=fun vs H Q _=>∃ b:Bytes,vs=[.str (strOf b)]∧b.length≤70000∧Q (.bl (decide (1≤b.length∧b.length≤12))) H
theorem scIsName:FnScope ["part"] ["part"] (defScope s_is_name):=⟨rfl,rfl,rfl,by decide +kernel,rfl,by decide +kernel,by decide +kernel⟩
theorem ok_is_name (T:Tx P w K mg):FnOk P w K mg base CX0 1 T.is_name.f T.is_name.fd ["part"] spIsName:=by
 refine T.is_name.fn.ok scIsName (fun vs H Q E h=>?_) (fun cdv A outer s H vs Q E hr h=>?_)
 ·obtain ⟨b,rfl,_⟩:=h
  rfl
 obtain ⟨b,rfl,hz,q⟩:=h
 refine ⟨_,pss_one (ps_ret (pe_chain op_le op_le pe_int (pe_callB call_len_str (by rfl) T.n_len PySem.boot_len (pa_cons (pv 0) pa_nil)) (pe_gi T.g_LONGEST_NAME rfl))),?_⟩
 refine ev_chain ev_c (ev_lenS (ev_var rfl) (by rw [strOf_len]; exact line10 (by omega))) ev_c _ ?_
 have e:decide (1≤b.length∧b.length≤12)=(decide ((1:Int)≤((strOf b).length:Int)) && decide (((strOf b).length:Int)≤12)):=by
  rw [strOf_len,Bool.eq_iff_iff]
  simp only [decide_eq_true_eq,Bool.and_eq_true]
  omega
 rw [e] at q
 exact q
def numV (o:Option Nat):V:=match o with
 | some n=>.int (n:Int)
 | none=>.non
def spNumber (K:PySem.W.Frag):Sp:=fun vs H Q _=>∃ (b:Bytes) (t:Addr) (lo hi:Nat),vs=[.str (strOf b),.ref t]∧SqT K H t [.int (lo:Int),.int (hi:Int)]∧b.length≤70000∧(∀ c∈b,Rc.nameSign c=true)∧Q (numV (Rc.numB lo hi b)) H
theorem scNumber:FnScope ["part","limits","number"] ["part","limits"] (defScope s_number_of):=⟨rfl,rfl,rfl,by decide +kernel,rfl,by decide +kernel,by decide +kernel⟩
theorem head_zero (b:Bytes) (h:0 < b.length):(b.map UInt8.toNat)[0]?=some ((b.headD 0).toNat):=by
 cases b with
 | nil=>simp at h
 | cons c b=>rfl
theorem ok_number (T:Tx P w K mg):FnOk P w K mg base CX0 1 T.number_of.f T.number_of.fd ["part","limits"] (spNumber K):=by
 have nd:=scNumber.nd
 refine T.number_of.fn.ok scNumber (fun vs H Q E h=>?_) (fun cdv A outer s H vs Q E hr h=>?_)
 ·obtain ⟨b,t,lo,hi,rfl,_⟩:=h
  rfl
 obtain ⟨b,t,lo,hi,rfl,ht,hz,hs,q⟩:=h
 refine ⟨_,pss_cons (ps_if ((pw_or (pt_cmpR op_gt (pe_callB call_len_str (by rfl) T.n_len PySem.boot_len (pa_cons (pv 0) pa_nil)) (pe_gi T.g_LONGEST_NUMBER (by rfl)) (nomark _)) (pw_or1 (pt_not (pt_val (pe_m0 PySem.F.slot_str_isdigit PySem.F.type_str_isdigit mt_isdigit (pv 0))))))).pt
   (pss_one (ps_ret pe_non)) pss_nil)
  (pss_cons (ps_if ((pw_and (pt_cmpR op_gt (pe_callB call_len_str (by rfl) T.n_len PySem.boot_len (pa_cons (pv 0) pa_nil)) pe_int (nomark _)) (pw_and1 (pt_cmpR op_eq (pe_ix ix_str (pv 0) pe_int (fun _ _=>rfl)) pe_str (nomark _))))).pt
   (pss_one (ps_ret pe_non)) pss_nil)
  (pss_cons (ps_set (i:=2) nd rfl (Or.inl rfl) (pe_callTy call_int_str (by rfl) T.n_int PyProof.Rows.boot_int (pa_cons (pv 0) pa_nil)))
  (pss_cons (ps_if (pt_chain op_le op_le (pe_ix ix_tup (pv 1) pe_int (fun _ _=>rfl)) (pv 2) (pe_ix ix_tup (pv 1) pe_int (fun _ _=>rfl)))
   (pss_one (ps_ret (pv 2))) pss_nil)
  (pss_one (ps_ret pe_non))))),?_⟩
 have V0:Ev (tVar 0) (L2.start ["part","limits","number"] [V.str (strOf b),V.ref t]) H (.str (strOf b)):=ev_var rfl
 have sz:(strOf b).length≤sizeLine:=by rw [strOf_len]; exact line10 (by omega)
 have ed:EvT (tB (tM0 (fun x xs H Q=>∃ a,x=.str a∧xs=[]∧True∧Q (.bl (Txt.isdigit a)) H) (tVar 0))) (L2.start ["part","limits","number"] [V.str (strOf b),V.ref t]) H (Txt.isdigit (strOf b)) :=
  evt_B fun Q q=>⟨_,rfl,⟨_,rfl⟩,_,rfl,rfl,trivial,q⟩
 refine rd_if (evt_or (evt_test (ev_i0 (ev_lenS V0 sz) ev_c)) fun _=>evt_not ed) (fun h=>?_) fun h=>?_
 ·have e:Rc.numB lo hi b=none:=by
   unfold Rc.numB
   rw [if_neg]
   rintro ⟨h1,h2,h3⟩
   rw [isdigit_eq hs,strOf_len,h3,decide_eq_true h2] at h
   have:(2:Int) < b.length:=by simpa using h
   omega
  rw [e] at q
  exact q
 rw [isdigit_eq hs,strOf_len] at h
 have h':b.length≤2∧(b≠[]∧b.all Rc.isDig=true):=by
  simp only [Bool.or_eq_false_iff,decide_eq_false_iff_not,Bool.not_eq_false',Bool.and_eq_true,decide_eq_true_eq] at h
  refine ⟨by omega,h.2⟩
 have hp:0 < b.length:=by
  cases b with
  | nil=>exact absurd rfl h'.2.1
  | cons _ _=>simp
 have hz0:(V.str ⟨#[(b.headD 0).toNat]⟩=V.str "0")↔b.head?=some 48:=by
  cases b with
  | nil=>simp at hp
  | cons c b =>
   rw [show ("0":Str)=⟨#[48]⟩ by decide +kernel]
   simp only [List.headD_cons,List.head?_cons,V.str.injEq,Str.mk.injEq,Array.mk.injEq,List.cons.injEq,and_true,Option.some.injEq,←UInt8.toNat_inj]
   rfl
 dsimp only [tSeq,tNext,gName]
 ((try dsimp only [tSeq,tNext,gName]); apply rd_if; exact (evt_and (evt_test (ev_i0 (ev_lenS V0 sz) ev_c)) fun _=>evt_test (ev_eq (ev_ixS V0 ev_c sz (at_ix (j:=0) (v:=(b.headD 0).toNat) rfl (by show (b.map UInt8.toNat).toArray.toList[0]?=_; rw [List.toList_toArray]; exact head_zero b hp))) ev_c)))
 all_goals intro h
 ·have e:Rc.numB lo hi b=none:=by
   unfold Rc.numB
   rw [if_pos h',if_pos]
   rw [strOf_len] at h
   have h2:=bt2 h
   exact ⟨by omega,hz0.mp h2.2⟩
  rw [e] at q
  exact q
 rw [strOf_len] at h
 have h2:=bf2 h
 refine ⟨_,rfl,_,_,rfl,int_eq h'.2.1 h'.1 h'.2.2,by rw [strOf_len]; omega,?_⟩
 refine rd_if (evt_test (ev_chain (ev_ixT (ev_var rfl) ev_c ht (at_ix (j:=0) rfl rfl)) (ev_var rfl) (ev_ixT (ev_var rfl) ev_c ht (at_ix (j:=1) rfl rfl)))) (fun h=>?_) fun h=>?_
 ·have h3:=bt2 h
  have e:Rc.numB lo hi b=some (natIn b):=by
   unfold Rc.numB
   rw [if_pos h',if_neg (fun e=>h2 ⟨by omega,hz0.mpr e.2⟩),if_pos ⟨by omega,by omega⟩]
  rw [e] at q
  exact ⟨_,rfl,q⟩
 ·have h3:=bf2 h
  have e:Rc.numB lo hi b=none:=by
   unfold Rc.numB
   rw [if_pos h',if_neg (fun e=>h2 ⟨by omega,hz0.mpr e.2⟩),if_neg (fun e=>h3 ⟨by omega,by omega⟩)]
  rw [e] at q
  exact q
end
end Rv
end
section
namespace Rv
open PySem PySem.Spec PyProof.Rows L2
open RgScore (Bytes Name Line Series cutAt spaced natIn ascii)
theorem numsB_len:∀ {ws:List Bytes} {ls:List (Nat×Nat)},ws.length≠ls.length→Rc.numsB ws ls=none
 | [],[],h=>absurd rfl h
 | [],_::_,_=>rfl
 | _::_,[],_=>rfl
 | x::ws,l::ls,h=>by
  have ih:=numsB_len (ws:=ws) (ls:=ls) (by simpa using h)
  unfold Rc.numsB
  rw [ih]
  split <;> rfl
theorem numsB_snoc {x:Bytes} {l:Nat×Nat}:∀ {ws:List Bytes} {ls:List (Nat×Nat)},ws.length=ls.length→Rc.numsB (ws++[x]) (ls++[l])=(Rc.numsB ws ls).bind fun ns=>(Rc.numB l.1 l.2 x).map fun n=>ns++[n]
 | [],[],_=>by
  show Rc.numsB [x] [l]=_
  unfold Rc.numsB
  cases Rc.numB l.1 l.2 x <;> rfl
 | [],_::_,h=>by simp at h
 | _::_,[],h=>by simp at h
 | y::ws,m::ls,h=>by
  have ih:=numsB_snoc (x:=x) (l:=l) (ws:=ws) (ls:=ls) (by simpa using h)
  show Rc.numsB (y::(ws++[x])) (m::(ls++[l]))=_
  unfold Rc.numsB
  rw [ih]
  cases Rc.numB m.1 m.2 y with
  | none=>rfl
  | some n =>
   cases Rc.numsB ws ls with
   | none=>rfl
   | some ns=>cases Rc.numB l.1 l.2 x <;> rfl
theorem numsB_part {xs:List Bytes} {ms:List (Nat×Nat)}:∀ {ws:List Bytes} {ls:List (Nat×Nat)},ws.length=ls.length→Rc.numsB ws ls=none→Rc.numsB (ws++xs) (ls++ms)=none
 | [],[],_,h=>by cases h
 | [],_::_,h,_=>by simp at h
 | _::_,[],h,_=>by simp at h
 | y::ws,m::ls,h,e=>by
  have ih:=numsB_part (xs:=xs) (ms:=ms) (ws:=ws) (ls:=ls) (by simpa using h)
  show Rc.numsB (y::(ws++xs)) (m::(ls++ms))=none
  unfold Rc.numsB at e ⊢
  cases e2:Rc.numB m.1 m.2 y with
  | none=>rfl
  | some n =>
   rw [e2] at e
   cases e3:Rc.numsB ws ls with
   | none =>
    show (Rc.numsB (ws++xs) (ls++ms)).map _=none
    rw [ih e3]
    rfl
   | some ns=>rw [e3] at e; cases e
def formIx (w:Bytes):Option Nat :=
 if w=ascii "boat" then some 0 else if w=ascii "out" then some 1 else if w=ascii "race" then some 2 else if w=ascii "place" then some 3
 else if w=ascii "miss" then some 4 else if w=ascii "dis" then some 5 else if w=ascii "avg" then some 6 else if w=ascii "pen" then some 7 else none
def formAt:Nat→Bool×List (Nat×Nat)
 | 0=>(true,[])
 | 1=>(false,[(1,32),(0,31)])
 | 2=>(false,[])
 | 3=>(true,[(1,64),(1,64)])
 | 4=>(true,[])
 | 5=>(true,[])
 | 6=>(true,[])
 | _=>(true,[(1,99)])
theorem formB_ix (w:Bytes):Rc.formB w=(formIx w).map formAt:=by
 unfold Rc.formB formIx
 repeat' split
 all_goals rfl
theorem ite_map {α β:Type} {c:Prop} [Decidable c] (f:α→β) (a b:Option α):(if c then a else b).map f=if c then a.map f else b.map f:=by split <;> rfl
theorem valV_one {k k':Key} {v:V} {r:List (Key×V)}:valV ((k',v)::r) k=if k'=k then some v else valV r k:=by
 by_cases e:k'=k
 ·rw [if_pos e]; exact valV_pos e
 ·rw [if_neg e]; unfold valV; rw [List.find?_cons,decide_eq_false e]
theorem form_val (a:Nat→Addr) (w:Bytes):valV (formKvs a) (Sum.inr (strOf w))=(formIx w).map fun i=>V.ref (a i):=by
 have key:∀ (s:Bytes) (t:Str),strOf s=t→(((Sum.inr t:Key)=Sum.inr (strOf w))↔w=s):=fun s t e=>by
  rw [←e]
  constructor
  ·intro h
   exact strOf_inj (Sum.inr.inj h).symm
  ·intro h
   rw [h]
 unfold formKvs formIx
 simp only [valV_one,key _ _ w_boat,key _ _ w_out,key _ _ w_race,key _ _ w_place,key _ _ w_miss,key _ _ w_dis,key _ _ w_avg,key _ _ w_pen]
 simp only [ite_map,Option.map_some,Option.map_none]
 rfl
theorem formIx_lt {w:Bytes} {i:Nat} (h:formIx w=some i):i < 8:=by
 unfold formIx at h
 repeat' split at h
 all_goals first | (cases h; decide) | cases h
theorem Tx.form_at {P:Program} {w:World} {K:PySem.W.Frag} {mg:Str→Option Value} (T:Tx P w K mg) {i:Nat} (h:i < 8):KForm K (T.aT i) (formAt i).1 (formAt i).2:=by
 match i,h with
 | 0,_=>exact T.form0
 | 1,_=>exact T.form1
 | 2,_=>exact T.form2
 | 3,_=>exact T.form3
 | 4,_=>exact T.form4
 | 5,_=>exact T.form5
 | 6,_=>exact T.form6
 | 7,_=>exact T.form7
section
variable {σ:L2.St} {H:Hp} {ta tb:TE} {v:V} {a:Addr} {kvs:List (Key×V)} {k:Key}
theorem ev_knotin (b:Ev tb σ H (kV k)) (d:Ev ta σ H (.ref a)):Ev (tKNotIn a kvs tb ta) σ H (.bl (!(valV kvs k).isSome)):=fun Q q=>b _ (d _ ⟨rfl,k,rfl,q⟩)
theorem ev_kget (d:Ev ta σ H (.ref a)) (b:Ev tb σ H (kV k)) (e:valV kvs k=some v):Ev (tKGet a kvs ta tb) σ H v:=fun Q q=>d _ (b _ ⟨rfl,k,v,rfl,e,q⟩)
theorem cut_from (xs:List V) (n:Nat):cutV xs (some (n:Int)) none=xs.drop n:=by
 unfold cutV HT.sIx
 dsimp only
 rw [if_neg (by omega),Int.toNat_natCast]
 by_cases h:n≤xs.length
 ·rw [Nat.min_eq_left h,List.take_of_length_le (by simp)]
 ·rw [Nat.min_eq_right (by omega),List.drop_length,List.drop_of_length_le (by omega)]
  simp
end
section
variable {P:Program} {w:World} {K:PySem.W.Frag} {mg:Str→Option Value} {base:Heap}
def PartOk (b:Bytes):Prop:=b.length≤70000∧∀ c∈b,Rc.nameSign c=true
def spNumbers (K:PySem.W.Frag):Sp:=fun vs H Q _=>∃ (a t:Addr) (ws:List Bytes) (ls:List (Nat×Nat)),vs=[.ref a,.ref t]∧H a=some (.lst (strsV ws))∧KLims K t ls∧(∀ x∈ws,PartOk x)∧ls.length≤100 ∧
 (Rc.numsB ws ls=none→∀ H',Same H H'→Q .non H')∧∀ ns,Rc.numsB ws ls=some ns→∀ (H':Hp) (p:Addr),Same H H'→H p=none→H' p=some (.lst (natsV ns))→Q (.ref p) H'
theorem scNumbers:FnScope ["parts","all_limits","numbers","part","limits","number"] ["parts","all_limits"] (defScope s_numbers_of):=⟨rfl,rfl,rfl,by decide +kernel,rfl,by decide +kernel,by decide +kernel⟩
theorem strsV_get {ws:List Bytes} {i:Nat} {y:V} (h:(strsV ws)[i]?=some y):∃ x,ws[i]?=some x∧y=.str (strOf x):=by
 unfold strsV at h
 rw [List.getElem?_map] at h
 cases e:ws[i]? with
 | none=>rw [e] at h; cases h
 | some c =>
  rw [e] at h
  exact ⟨c,rfl,(Option.some.inj h).symm⟩
theorem strsV_len (ws:List Bytes):(strsV ws).length=ws.length:=by unfold strsV; rw [List.length_map]
theorem ok_numbers (T:Tx P w K mg):FnOk P w K mg base CX0 2 T.numbers_of.f T.numbers_of.fd ["parts","all_limits"] (spNumbers K):=by
 have nd:=scNumbers.nd
 have G:=ok_number (base:=base) T
 refine T.numbers_of.fn.ok scNumbers (fun vs H Q E h=>?_) (fun cdv A outer s H vs Q E hr h=>?_)
 ·obtain ⟨a,t,ws,ls,rfl,_⟩:=h
  rfl
 obtain ⟨a,t,ws,ls,rfl,ha,⟨as,hT,hal,hlim⟩,hok,hsz,q0,q1⟩:=h
 refine ⟨_,pss_cons (ps_if (pt_cmpR op_ne (pe_callB call_len_seq (by rfl) T.n_len PySem.boot_len (pa_cons (pv 0) pa_nil)) (pe_callB call_len_seq (by rfl) T.n_len PySem.boot_len (pa_cons (pv 1) pa_nil)) (nomark _)) (pss_one (ps_ret pe_non)) pss_nil)
  (pss_cons (ps_set (i:=2) nd rfl (Or.inl rfl) (pe_lst pa_nil))
  (pss_cons (ps_for PassesOwn.never rfl (pi_zipLT rfl T.n_zip (pa_cons (pv 0) (pa_cons (pv 1) pa_nil))) (pg_tup rfl (pgs_cons (pg_name (i:=3) nd rfl (Or.inl rfl)) (pgs_cons (pg_name (i:=4) nd rfl (Or.inl rfl)) pgs_nil)))
   (pss_cons (ps_set (i:=5) nd rfl (Or.inl rfl) (pe_call G (hr.mono (by decide)) rfl T.number_of.gl T.number_of.fn.kp T.number_of.bd .nil pass0 (pa_cons (pv 3) (pa_cons (pv 4) pa_nil))))
   (pss_cons (ps_if (pt_cmpR op_isN (pv 5) pe_non (nomark _)) (pss_one (ps_ret pe_non)) pss_nil)
   (pss_one (ps_expr (pe_bm PySem.F.plainAttrs_list PySem.F.slot_list_append PySem.F.type_list_append mt_append (pv 2) (pa_cons (pv 5) pa_nil)))))))
  (pss_one (ps_ret (pv 2))))),?_⟩
 refine rd_if (evt_test (ev_ne (ev_lenL (ev_var rfl) (SqL.of ha)) (ev_lenT (ev_var rfl) (hT H)))) (fun h=>?_) fun h=>?_
 ·refine q0 (numsB_len fun e=>?_) H (Same.refl H)
  rw [strsV_len,List.length_map,hal,e] at h
  simp at h
 have hlen:ws.length=ls.length:=by
  rw [strsV_len,List.length_map,hal] at h
  have:(ws.length:Int)=ls.length:=by simpa using h
  omega
 refine ⟨Nat.zero_le _,fun l hl=>?_⟩
 have s0:Same H (upd H l (.lst [])):=Same.new hl
 refine ⟨_,rfl,_,rfl,a,t,_,_,rfl,SqL.of (s0 _ _ ha),hT _,for_zlt (K:=K) (a:=a) (b:=t) (xs:=strsV ws) (ys:=as.map V.ref) (by rw [strsV_len,List.length_map,hal,hlen])
  (fun i σ H'=>∃ (v3 v4 v5:Option V) (acc:List Nat),σ=[some (.ref a),some (.ref t),some (.ref l),v3,v4,v5]∧Same H H'∧H' l=some (.lst (natsV acc))∧Rc.numsB (ws.take i) (ls.take i)=some acc∧acc.length=i)
  ⟨none,none,none,[],rfl,s0,upd_same,rfl,rfl⟩ (fun i σ H' _ ⟨_,_,_,_,_,s1,_⟩=>⟨SqL.of (s1 _ _ ha),hT _⟩) ?_ ?_⟩
 ·rintro i x y σ H' T0 hx hy ⟨v3,v4,v5,acc,rfl,s1,h1,hn,hac⟩ hT0
  obtain ⟨p,hp,rfl⟩:=strsV_get hx
  obtain ⟨lb,hlb,rfl⟩:∃ lb,as[i]?=some lb∧y=.ref lb:=by
   rw [List.getElem?_map] at hy
   cases e:as[i]? with
   | none=>rw [e] at hy; cases hy
   | some c=>rw [e] at hy; exact ⟨c,rfl,(Option.some.inj hy).symm⟩
  have hi:i < ls.length:=by
   have:=(List.getElem?_eq_some_iff.mp hp).1
   omega
  have hli:ls[i]?=some ls[i]:=List.getElem?_eq_getElem hi
  have hk:=hlim i lb _ hlb hli
  have hne:l≠T0:=ne_of_none h1 hT0
  have s2:Same H (upd H' T0 (.tup [.str (strOf p),.ref lb])):=s1.put (s1.free hT0)
  have h2:(upd H' T0 (.tup [.str (strOf p),.ref lb])) l=some (.lst (natsV acc)):=by rw [upd_ne hne]; exact h1
  have en:Rc.numsB (ws.take (i + 1)) (ls.take (i + 1))=(Rc.numB ls[i].1 ls[i].2 p).map fun n=>acc++[n]:=by
   rw [take_snoc hp,take_snoc hli,numsB_snoc (by rw [List.length_take,List.length_take]; omega),hn]
   rfl
  refine ⟨T0,_,rfl,SqT.of upd_same,rfl,_,_,rfl,_,_,rfl,rfl,?_⟩
  refine ⟨_,rfl,_,rfl,p,lb,ls[i].1,ls[i].2,rfl,hk _,(hok p (List.mem_of_getElem? hp)).1,(hok p (List.mem_of_getElem? hp)).2,?_⟩
  cases e:Rc.numB ls[i].1 ls[i].2 p with
  | none =>
   refine rd_if (b:=decide (V.non=V.non)) (evt_test (ev_isN (ev_var rfl) ev_c)) (fun _=>?_) fun h=>(by cases h)
   refine q0 ?_ _ s2
   rw [e] at en
   have:=numsB_part (xs:=ws.drop (i + 1)) (ms:=ls.drop (i + 1)) (by rw [List.length_take,List.length_take]; omega) en
   rw [List.take_append_drop,List.take_append_drop] at this
   exact this
  | some n =>
   refine rd_if (b:=decide (V.int (n:Int)=V.non)) (evt_test (ev_isN (ev_var rfl) ev_c)) (fun h=>nomatch of_decide_eq_true h) fun _=>?_
   rw [e] at en
   refine ⟨_,rfl,.inl ⟨rfl,_,SqL.of h2⟩,_,rfl,l,_,_,rfl,rfl,h2,?_,?_⟩
   ·unfold natsV
    rw [List.length_map]
    exact line10' (by omega)
   ·refine ⟨_,_,_,acc++[n],rfl,s2.put hl,?_,en,by rw [List.length_append,hac]; rfl⟩
    rw [upd_same]
    unfold natsV
    rw [List.map_append]
    rfl
 ·rintro σ H' ⟨v3,v4,v5,acc,rfl,s1,h1,hn,hac⟩
  rw [strsV_len,List.take_length,List.take_of_length_le (by omega)] at hn
  exact ⟨_,rfl,q1 acc hn H' l s1 hl h1⟩
end
end Rv
end
section
namespace Rv
open PySem PySem.Spec PyProof.Rows L2
open RgScore (Bytes Name Line Series cutAt spaced natIn ascii)
section
variable {P:Program} {w:World} {K:PySem.W.Frag} {mg:Str→Option Value} {base:Heap}
def lineF (a b c:V):List (Str×V):=[("word",a),("name",b),("numbers",c)]
theorem line_put (a b c:V):putF "numbers" c (putF "name" b (putF "word" a []))=lineF a b c:=by
 simp only [putF]
 rw [if_neg (by decide)]
 simp only [putF]
 rw [if_neg (by decide),if_neg (by decide)]
 rfl
theorem line_word (a b c:V):(lineF a b c).lookup ("word":Str)=some a:=by
 unfold lineF
 rw [List.lookup_cons,show (("word":Str)=="word")=true by decide]
theorem line_name (a b c:V):(lineF a b c).lookup ("name":Str)=some b:=by
 unfold lineF
 rw [List.lookup_cons,show (("name":Str)=="word")=false by decide,List.lookup_cons,show (("name":Str)=="name")=true by decide]
theorem line_nums (a b c:V):(lineF a b c).lookup ("numbers":Str)=some c:=by
 unfold lineF
 rw [List.lookup_cons,show (("numbers":Str)=="word")=false by decide,List.lookup_cons,show (("numbers":Str)=="name")=false by decide,List.lookup_cons,show (("numbers":Str)=="numbers")=true by decide]
def spLineInit (C:Addr):Sp:=fun vs H Q _=>∃ (p dx:Addr) (a b c:V),vs=[.ref p,a,b,c]∧H p=some (.ins C dx [])∧Q .non (upd H p (.ins C dx (lineF a b c)))
theorem scLineInit:FnScope ["self","word","name","numbers"] ["self","word","name","numbers"] (defScope s_Line_init):=⟨rfl,rfl,rfl,by decide +kernel,rfl,by decide +kernel,by decide +kernel⟩
theorem ok_line_init (T:Tx P w K mg):FnOk P w K mg base CX0 1 T.Line.f T.Line.fd ["self","word","name","numbers"] (spLineInit T.Line.C):=by
 refine T.Line.fn.ok scLineInit (fun vs H Q E h=>?_) (fun cdv A outer s H vs Q E hr h=>?_)
 ·obtain ⟨p,dx,a,b,c,rfl,_⟩:=h
  rfl
 obtain ⟨p,dx,a,b,c,rfl,hp,q⟩:=h
 refine ⟨_,pss_cons (ps_fld (pv 0) (pv 1) rfl) (pss_cons (ps_fld (pv 0) (pv 2) rfl) (pss_one (ps_fld (pv 0) (pv 3) rfl))),?_⟩
 refine ⟨_,rfl,_,rfl,p,T.Line.C,dx,_,rfl,hp,T.Line.cl,T.a_Line_word,(by show 0 < 1000; decide),?_⟩
 refine ⟨_,rfl,_,rfl,p,T.Line.C,dx,_,rfl,upd_same,T.Line.cl,T.a_Line_name,(by show 1 < 1000; decide),?_⟩
 refine ⟨_,rfl,_,rfl,p,T.Line.C,dx,_,rfl,upd_same,T.Line.cl,T.a_Line_numbers,?_,?_⟩
 ·show (putF "name" b (putF "word" a [])).length < 1000
  simp only [putF]
  rw [if_neg (by decide)]
  exact (by decide:2 < 1000)
 ·rw [line_put,upd_upd,upd_upd]
  exact q
structure LineAt (C:Addr) (H:Hp) (l:Addr) (t:Bytes×Bytes×List Nat) (na:Addr):Prop where
 obj:∃ dx,H l=some (.ins C dx (lineF (.str (strOf t.1)) (.str (strOf t.2.1)) (.ref na)))
 nums:H na=some (.lst (natsV t.2.2))
def spRead (C:Addr):Sp:=fun vs H Q _=>∃ (a:Addr) (b:Bytes),vs=[.ref a]∧H a=some (.lst (bytesV b))∧b.length≤70000∧(Rc.readB b=none→∀ H',Same H H'→Q .non H') ∧
 ∀ t,Rc.readB b=some t→∀ (H':Hp) (l na:Addr),Same H H'→H l=none→H na=none→LineAt C H' l t na→Q (.ref l) H'
theorem scRead:FnScope ["codes","parts","word","name","rest","numbers"] ["codes"] (defScope s_read_line):=⟨rfl,rfl,rfl,by decide +kernel,rfl,by decide +kernel,by decide +kernel⟩
theorem part_ok {b:Bytes} {ws:List Bytes} (hz:b.length≤70000) (h:Rc.partsB b=some ws):ws≠[]∧∀ x∈ws,PartOk x:=by
 unfold Rc.partsB at h
 by_cases e:b.all Rc.legal=true
 ·rw [if_pos e] at h
  cases h
  refine ⟨Rc.cut_ne 32 b,fun x hx=>⟨?_,fun c hc=>?_⟩⟩
  ·have:∀ {b:Bytes} {x:Bytes},x∈cutAt 32 b→x.length≤b.length:=by
    intro b
    induction b with
    | nil=>intro x hx; simp [cutAt] at hx; rw [hx]; exact Nat.le_refl _
    | cons c b ih =>
     intro x hx
     unfold cutAt at hx
     split at hx
     ·rcases List.mem_cons.mp hx with rfl | hx
      ·exact Nat.zero_le _
      ·exact Nat.le_succ_of_le (ih hx)
     ·cases e2:cutAt 32 b with
      | nil=>exact absurd e2 (Rc.cut_ne 32 b)
      | cons l m =>
       rw [e2] at hx ih
       rcases List.mem_cons.mp hx with rfl | hx
       ·exact Nat.succ_le_succ (ih List.mem_cons_self)
       ·exact Nat.le_succ_of_le (ih (List.mem_cons_of_mem _ hx))
   exact Nat.le_trans (this hx) hz
  ·obtain ⟨h1,h2⟩:=Rc.cut_mem hx c hc
   have:=List.all_eq_true.mp e c h1
   unfold Rc.legal at this
   rw [Bool.or_eq_true] at this
   rcases this with q | q
   ·exact absurd (of_decide_eq_true q) h2
   ·exact q
 ·rw [if_neg e] at h; cases h
theorem readB_at {b w:Bytes} {rest:List Bytes} {i:Nat} (h:Rc.partsB b=some (w::rest)) (hi:formIx w=some i):Rc.readB b=Rc.restB w rest (formAt i):=by
 unfold Rc.readB
 rw [h]
 dsimp only
 rw [formB_ix,hi]
 rfl
theorem readB_no {b w:Bytes} {rest:List Bytes} (h:Rc.partsB b=some (w::rest)) (hi:formIx w=none):Rc.readB b=none:=by
 unfold Rc.readB
 rw [h]
 dsimp only
 rw [formB_ix,hi]
 rfl
theorem ok_read (T:Tx P w K mg):FnOk P w K mg base CX0 3 T.read_line.f T.read_line.fd ["codes"] (spRead T.Line.C):=by
 have nd:=scRead.nd
 have G1:=ok_parts (base:=base) T
 have G2:=ok_is_name (base:=base) T
 have G3:=ok_numbers (base:=base) T
 have G4:=ok_line_init (base:=base) T
 refine T.read_line.fn.ok scRead (fun vs H Q E h=>?_) (fun cdv A outer s H vs Q E hr h=>?_)
 ·obtain ⟨a,b,rfl,_⟩:=h
  rfl
 obtain ⟨a,b,rfl,ha,hz,q0,q1⟩:=h
 have tl:∃ tt,PSs (cxOf CX0 P w K mg base ["codes","parts","word","name","rest","numbers"] "read_line" (defScope s_read_line) T.read_line.f cdv A outer s H E).nox ((defBody s_read_line).drop 6) tt ∧
   ∀ (x nm:Bytes) (r:List Bytes) (p ra:Addr) (i:Nat) (H2:Hp),Same H H2→H2 ra=some (.lst (strsV r))→formIx x=some i→(∀ y∈r,PartOk y)→(Rc.numsB r (formAt i).2=none→Rc.readB b=none) →
    (∀ ns,Rc.numsB r (formAt i).2=some ns→Rc.readB b=some (x,nm,ns))→tt { nx:=fun _ H'=>Q .non H',rt:=Q } [some (.ref a),some (.ref p),some (.str (strOf x)),some (.str (strOf nm)),some (.ref ra),none] H2:=by
  refine ⟨_,pss_cons (ps_set (i:=5) nd rfl (Or.inl rfl) (pe_call G3 (hr.mono (by decide)) rfl T.numbers_of.gl T.numbers_of.fn.kp T.numbers_of.bd .nil pass0 (pa_cons (pv 4) (pa_cons (pe_ix ix_tup (pe_kget T.forms (pe_gr T.g_FORMS rfl) (pv 2) (fun _ _=>rfl)) pe_int (fun _ _=>rfl)) pa_nil))))
   (pss_cons (ps_if (pt_cmpR op_isN (pv 5) pe_non (nomark _)) (pss_one (ps_ret pe_non)) pss_nil)
   (pss_one (ps_ret (pe_make T.Line.mkx G4 (hr.mono (by decide)) rfl T.Line.gl T.Line.bd .nil pass0 (pa_cons (pv 2) (pa_cons (pv 3) (pa_cons (pv 5) pa_nil))))))),?_⟩
  intro x nm r p ra i H2 s2 hra hi hok n0 n1
  obtain ⟨c,hc1,hc2⟩:=T.form_at (formIx_lt hi)
  refine ⟨_,rfl,?_⟩
  refine ev_ixT (ev_kget ev_c (ev_var rfl) (v:=.ref (T.aT i)) (k:=Sum.inr (strOf x)) (by rw [form_val,hi]; rfl)) ev_c (hc1 H2) (at_ix (j:=1) rfl rfl) _ ?_
  refine ⟨ra,c,r,(formAt i).2,rfl,hra,hc2,hok,?_,fun e H' s3=>?_,fun ns e H' na s3 hna hn=>?_⟩
  ·have:=formIx_lt hi
   match i,this with
   | 0,_=>decide
   | 1,_=>decide
   | 2,_=>decide
   | 3,_=>decide
   | 4,_=>decide
   | 5,_=>decide
   | 6,_=>decide
   | 7,_=>decide
  ·exact rd_if (b:=decide (V.non=V.non)) (evt_test (ev_isN (ev_var rfl) ev_c)) (fun _=>q0 (n0 e) H' (s2.trans s3)) fun h=>(by cases h)
  ·refine rd_if (b:=decide (V.ref na=V.non)) (evt_test (ev_isN (ev_var rfl) ev_c)) (fun h=>nomatch of_decide_eq_true h) fun _=>?_
   refine ⟨_,rfl,_,rfl,_,rfl,fun o dx ho hdx hne=>⟨o,dx,_,_,_,rfl,upd_same,rfl,?_⟩⟩
   have s4:Same H H':=s2.trans s3
   have hno:na≠o:=ne_of_none hn ho
   have hnd:na≠dx:=ne_of_none hn hdx
   refine q1 _ (n1 ns e) _ o na ?_ (s4.free ho) (s2.free hna) ⟨⟨dx,upd_same⟩,?_⟩
   ·exact ((s4.put (s4.free hdx)).put (s4.free ho)).put (s4.free ho)
   ·rw [upd_ne hno,upd_ne hno,upd_ne hnd]
    exact hn
 obtain ⟨tt,hT,tail⟩:=tl
 refine ⟨_,pss_cons (ps_set (i:=1) nd rfl (Or.inl rfl) (pe_call G1 (hr.mono (by decide)) rfl T.parts_of.gl T.parts_of.fn.kp T.parts_of.bd .nil pass0 (pa_cons (pv 0) pa_nil)))
  (pss_cons (ps_if ((pw_or (pt_cmpR op_isN (pv 1) pe_non (nomark _)) (pw_or1 (pt_cmp (pc_knotin T.forms (pe_ix ix_list (pv 1) pe_int (fun _ _=>rfl)) (pe_gr T.g_FORMS (by rfl))))))).pt (pss_one (ps_ret pe_non)) pss_nil)
  (pss_cons (ps_set (i:=2) nd rfl (Or.inl rfl) (pe_ix ix_list (pv 1) pe_int (fun _ _=>rfl)))
  (pss_cons (ps_set (i:=3) nd rfl (Or.inl rfl) pe_str)
  (pss_cons (ps_set (i:=4) nd rfl (Or.inl rfl) (pe_slice sl_list (pv 1) (po_some pe_int) po_none))
  (pss_cons (ps_if (pt_val (pe_ix ix_tup (pe_kget T.forms (pe_gr T.g_FORMS rfl) (pv 2) (fun _ _=>rfl)) pe_int (fun _ _=>rfl)))
   (pss_cons (ps_if ((pw_or (pt_cmpR op_eq (pe_callB call_len_seq (by rfl) T.n_len PySem.boot_len (pa_cons (pv 4) pa_nil)) pe_int (nomark _)) (pw_or1 (pt_not (pt_val (pe_call G2 (hr.mono (by decide)) (by rfl) T.is_name.gl T.is_name.fn.kp T.is_name.bd .nil pass0 (pa_cons (pe_ix ix_list (pv 4) pe_int (fun _ _=>rfl)) pa_nil))))))).pt (pss_one (ps_ret pe_non)) pss_nil)
   (pss_cons (ps_set (i:=3) nd rfl (Or.inl rfl) (pe_ix ix_list (pv 4) pe_int (fun _ _=>rfl)))
   (pss_one (ps_set (i:=4) nd rfl (Or.inl rfl) (pe_slice sl_list (pv 4) (po_some pe_int) po_none)))))
   pss_nil)
  hT))))),?_⟩
 refine ⟨_,rfl,a,b,rfl,ha,hz,fun e H1 s1=>?_,fun ws e H1 p s1 hp hpl=>?_⟩
 ·have en:Rc.readB b=none:=by unfold Rc.readB; rw [e]
  exact rd_if (b:=decide (V.non=V.non) || false) (evt_or (evt_test (ev_isN (ev_var rfl) ev_c)) fun h=>(by cases h)) (fun _=>q0 en H1 s1) fun h=>(by cases h)
 obtain ⟨hne,hok⟩:=part_ok hz e
 cases ws with
 | nil=>exact absurd rfl hne
 | cons x rest =>
  dsimp only [tSeq,tNext,gName]
  ((try dsimp only [tSeq,tNext,gName]); apply rd_if; exact (evt_or (evt_test (ev_isN (ev_var rfl) ev_c)) fun _=>evt_B (ev_knotin (k:=Sum.inr (strOf x)) (ev_ixL (ev_var rfl) ev_c (SqL.of hpl) (at_ix (j:=0) rfl rfl)) ev_c)))
  ·intro h
   rw [form_val] at h
   cases hi:formIx x with
   | none=>exact q0 (readB_no e hi) H1 s1
   | some i =>
    rw [hi] at h
    cases h
  intro h
  rw [form_val] at h
  cases hi:formIx x with
  | none =>
   rw [hi] at h
   cases h
  | some i =>
   have hrd:=readB_at e hi
   obtain ⟨c,hc1,hc2⟩:=T.form_at (formIx_lt hi)
   have hok':∀ y∈rest,PartOk y:=fun y hy=>hok y (List.mem_cons_of_mem _ hy)
   refine ev_ixL (ev_var rfl) ev_c (SqL.of hpl) (at_ix (j:=0) rfl rfl) _ ?_
   refine ⟨_,rfl,1,rfl,p,_,rfl,SqL.of hpl,fun p2 hp2=>?_⟩
   have e2:cutV (strsV (x::rest)) (some 1) none=strsV rest:=cut_from _ 1
   rw [e2]
   have s2:Same H (upd H1 p2 (.lst (strsV rest))):=s1.put (s1.free hp2)
   ((try dsimp only [tSeq,tNext,gName]); apply rd_if; exact (evt_B (ev_ixT (ev_kget ev_c (ev_var rfl) (v:=.ref (T.aT i)) (k:=Sum.inr (strOf x)) (by rw [form_val,hi]; rfl)) ev_c (hc1 _) (at_ix (j:=0) rfl rfl))))
   ·intro hb
    have hf:formAt i=(true,(formAt i).2):=by rw [←hb]
    rw [hf] at hrd
    cases rest with
    | nil =>
     exact rd_if (b:=decide (V.int 0=V.int 0) || false) (evt_or (evt_test (ev_eq (ev_lenL (ev_var rfl) (SqL.of upd_same)) ev_c)) fun h=>(by cases h)) (fun _=>q0 hrd _ s2) fun h=>(by cases h)
    | cons nm r =>
     have hz2:=hok' nm List.mem_cons_self
     ((try dsimp only [tSeq,tNext,gName]); apply rd_if; exact (evt_or (evt_test (ev_eq (ev_lenL (ev_var rfl) (SqL.of upd_same)) ev_c)) fun _=>evt_not (evt_B (ev_call (eva_cons (ev_ixL (ev_var rfl) ev_c (SqL.of upd_same) (at_ix (j:=0) rfl rfl)) eva_nil) fun Q q=>⟨nm,rfl,hz2.1,q⟩))))
     ·intro h
      have hn:¬ (1≤nm.length∧nm.length≤12):=fun z=>by
       rw [decide_eq_true z] at h
       have:(strsV (nm::r)).length=r.length + 1:=by rw [strsV_len]; rfl
       rw [this] at h
       simp at h
       omega
      refine q0 ?_ _ s2
      rw [hrd]
      show (if 1≤nm.length∧nm.length≤12 then _ else none)=none
      rw [if_neg hn]
     ·intro h
      have hn:1≤nm.length∧nm.length≤12:=Classical.byContradiction fun z=>by
       rw [decide_eq_false z] at h
       simp at h
      have hrd2:Rc.readB b=(Rc.numsB r (formAt i).2).map fun ns=>(x,nm,ns):=by
       rw [hrd]
       show (if 1≤nm.length∧nm.length≤12 then _ else none)=_
       rw [if_pos hn]
      refine ev_ixL (ev_var rfl) ev_c (SqL.of upd_same) (at_ix (j:=0) rfl rfl) _ ?_
      refine ⟨_,rfl,1,rfl,p2,_,rfl,SqL.of upd_same,fun p3 hp3=>?_⟩
      have e3:cutV (strsV (nm::r)) (some 1) none=strsV r:=cut_from _ 1
      rw [e3]
      exact tail x nm r p p3 i _ (s2.put (s2.free hp3)) upd_same hi (fun y hy=>hok' y (List.mem_cons_of_mem _ hy)) (fun z=>by rw [hrd2,z]; rfl) fun ns z=>by rw [hrd2,z]; rfl
   ·intro hb
    have hf:formAt i=(false,(formAt i).2):=by rw [←hb]
    rw [hf] at hrd
    have hrd2:Rc.readB b=(Rc.numsB rest (formAt i).2).map fun ns=>(x,[],ns):=hrd
    have:=tail x [] rest p p2 i _ s2 upd_same hi hok' (fun z=>by rw [hrd2,z]; rfl) fun ns z=>by rw [hrd2,z]; rfl
    rw [w_nil] at this
    exact this
end
end Rv
end
section
namespace Rv
open PySem PySem.Spec PyProof.Rows L2
open RgScore (Bytes Name Line Series boats outs races ownOf penOf ascii)
def isT:HO→Bool
 | .tbl _=>true
 | _=>false
def Kp (H H':Hp):Prop:=∀ b o,H b=some o→isT o=false→H' b=some o
theorem Kp.of {H H':Hp} (s:Same H H'):Kp H H':=fun b o e _=>s b o e
theorem Kp.trans {H H1 H2:Hp} (a:Kp H H1) (b:Kp H1 H2):Kp H H2:=fun c o e t=>b c o (a c o e t) t
theorem lk_hit {f:Str} {v:V} {r:List (Str×V)}:((f,v)::r).lookup f=some v:=by rw [List.lookup_cons,beq_self_eq_true]
theorem lk_skip {f g:Str} {v:V} {r:List (Str×V)} (h:(g==f)=false:=by decide):((f,v)::r).lookup g=r.lookup g:=by rw [List.lookup_cons,h]
def raceF (a b:V):List (Str×V):=[("results",a),("pens",b)]
theorem race_res (a b:V):(raceF a b).lookup ("results":Str)=some a:=lk_hit
theorem race_pens (a b:V):(raceF a b).lookup ("pens":Str)=some b:=by unfold raceF; rw [lk_skip]; exact lk_hit
def serF (a k b o r:V):List (Str×V):=[("codes",a),("line_count",k),("boats",b),("outs",o),("races",r)]
theorem ser_codes (a k b o r:V):(serF a k b o r).lookup ("codes":Str)=some a:=lk_hit
theorem ser_count (a k b o r:V):(serF a k b o r).lookup ("line_count":Str)=some k:=by unfold serF; rw [lk_skip]; exact lk_hit
theorem ser_boats (a k b o r:V):(serF a k b o r).lookup ("boats":Str)=some b:=by unfold serF; rw [lk_skip,lk_skip]; exact lk_hit
theorem ser_outs (a k b o r:V):(serF a k b o r).lookup ("outs":Str)=some o:=by unfold serF; rw [lk_skip,lk_skip,lk_skip]; exact lk_hit
theorem ser_races (a k b o r:V):(serF a k b o r).lookup ("races":Str)=some r:=by unfold serF; rw [lk_skip,lk_skip,lk_skip,lk_skip]; exact lk_hit
def deskF (a:V):List (Str×V):=[("series",a)]
theorem desk_ser (a:V):(deskF a).lookup ("series":Str)=some a:=lk_hit
def natV (n:Nat):V:=.int (n:Int)
def wordOf:Option Line→Bytes
 | some l=>(Rc.lineP l).1
 | none=>ascii "miss"
def numsOf (l:Line):List Nat:=(Rc.lineP l).2.2
def ResV (Okn:Addr→Prop) (H:Hp):Option V→Option Line→Prop
 | none,none=>True
 | some v,some l=>∃ t na,v=.ref t∧H t=some (.tup [.str (strOf (Rc.lineP l).1),.ref na])∧H na=some (.lst (natsV (numsOf l)))∧Okn na
 | _,_=>False
structure RaceAd where
 o:Addr
 rd:Addr
 pd:Addr
structure RaceAt (C:Addr) (Okn:Addr→Prop) (H:Hp) (bs:List Name) (m:Nat) (ls:List Line) (x:RaceAd):Prop where
 obj:∃ dx,H x.o=some (.ins C dx (raceF (.ref x.rd) (.ref x.pd)))
 res:∃ kvs,H x.rd=some (.dK kvs)∧kvs.length≤m∧∀ (i:Nat) (n:Name),bs[i]?=some n→ResV Okn H (valV kvs (Sum.inl (i:Int))) (ownOf ls n)
 pen:∃ kvs,H x.pd=some (.dK kvs)∧kvs.length≤m∧∀ (i:Nat) (n:Name),bs[i]?=some n→valV kvs (Sum.inl (i:Int))=(penOf ls n).map natV
 ne:x.rd≠x.pd
structure SerAd where
 o:Addr
 cd:Addr
 bd:Addr
 od:Addr
 rl:Addr
 rs:List RaceAd
 os:List Addr
 av:Addr→Prop
def SerAd.okn (a:SerAd) (b:Addr):Prop:=b≠a.cd∧b≠a.od∧b≠a.rl∧a.av b
def Apart (x y:RaceAd):Prop:=x.rd≠y.rd∧x.rd≠y.pd∧x.pd≠y.rd∧x.pd≠y.pd
structure SerAt (cR cS:Addr) (H:Hp) (a:SerAd) (c:Series) (t:Bytes):Prop where
 good:Rc.Good c
 obj:∃ dx,H a.o=some (.ins cS dx (serF (.ref a.cd) (natV c.length) (.ref a.bd) (.ref a.od) (.ref a.rl)))
 codes:H a.cd=some (.lst (bytesV t))
 hBoats:∃ kvs,H a.bd=some (.dK kvs)∧kvs.length=(boats c).length∧∀ n:Name,valV kvs (Sum.inr (strOf n))=((boats c).idxOf? n).map natV
 hOuts:H a.od=some (.lst (a.os.map V.ref))∧a.os.length=(outs c).length∧∀ (i:Nat) (o:Addr) (p:Nat×Nat),a.os[i]?=some o→(outs c)[i]?=some p→H o=some (.tup [natV p.1,natV p.2])
 hRaces:H a.rl=some (.lst (a.rs.map fun x=>V.ref x.o))∧a.rs.length=(races c).length∧∀ (k:Nat) (x:RaceAd) (ls:List Line),a.rs[k]?=some x→(races c)[k]?=some ls→RaceAt cR a.okn H (boats c) c.length ls x
 nel:a.cd≠a.od∧a.cd≠a.rl∧a.od≠a.rl
 ned:∀ x∈a.rs,x.rd≠a.bd∧x.pd≠a.bd
 nea:a.rs.Pairwise Apart
 hav:a.av a.cd∧a.av a.od∧a.av a.rl
theorem ResV.keep {Okn:Addr→Prop} {H H':Hp} {v:Option V} {l:Option Line} (h:ResV Okn H v l) (s:Kp H H'):ResV Okn H' v l:=by
 cases v with
 | none=>cases l with
  | none=>trivial
  | some l=>exact h
 | some v=>cases l with
  | none=>exact h
  | some l =>
   obtain ⟨t,na,e,h1,h2,h3⟩:=h
   exact ⟨t,na,e,s _ _ h1 rfl,s _ _ h2 rfl,h3⟩
theorem RaceAt.keep {C:Addr} {Okn:Addr→Prop} {H H':Hp} {bs:List Name} {m:Nat} {ls:List Line} {x:RaceAd} (h:RaceAt C Okn H bs m ls x) (s:Kp H H'):RaceAt C Okn H' bs m ls x:=by
 obtain ⟨⟨dx,h1⟩,⟨k1,h2,h3,h4⟩,⟨k2,h5,h6,h7⟩,h8⟩:=h
 exact ⟨⟨dx,s _ _ h1 rfl⟩,⟨k1,s _ _ h2 rfl,h3,fun i n e=>(h4 i n e).keep s⟩,⟨k2,s _ _ h5 rfl,h6,h7⟩,h8⟩
theorem SerAt.keep {cR cS:Addr} {H H':Hp} {a:SerAd} {c:Series} {t:Bytes} (h:SerAt cR cS H a c t) (s:Kp H H'):SerAt cR cS H' a c t:=by
 obtain ⟨g,⟨dx,h1⟩,h2,⟨kb,h3,h4,h5⟩,⟨h6,h7,h8⟩,⟨h9,h10,h11⟩,h12,h13,h14,h15⟩:=h
 exact ⟨g,⟨dx,s _ _ h1 rfl⟩,s _ _ h2 rfl,⟨kb,s _ _ h3 rfl,h4,h5⟩,⟨s _ _ h6 rfl,h7,fun i o p e1 e2=>s _ _ (h8 i o p e1 e2) rfl⟩,⟨s _ _ h9 rfl,h10,fun k x ls e1 e2=>(h11 k x ls e1 e2).keep s⟩,h12,h13,h14,h15⟩
structure SerNew (H0:Hp) (a:SerAd):Prop where
 o:H0 a.o=none
 cd:H0 a.cd=none
 bd:H0 a.bd=none
 od:H0 a.od=none
 rl:H0 a.rl=none
 rs:∀ x∈a.rs,H0 x.o=none∧H0 x.rd=none∧H0 x.pd=none
 av:∀ b,H0 b=none→a.av b
def isPlace:Option Line→Bool
 | some (.place _ _ _)=>true
 | _=>false
theorem word_avg (o:Option Line):decide (V.str (strOf (wordOf o))=V.str "avg")=Rc.isAvg o:=by
 rw [←w_avg]
 cases o with
 | none=>decide +kernel
 | some l=>cases l with
  | boat n=>exact (by decide +kernel:decide (V.str (strOf (ascii "boat"))=V.str (strOf (ascii "avg")))=false)
  | out r k=>exact (by decide +kernel:decide (V.str (strOf (ascii "out"))=V.str (strOf (ascii "avg")))=false)
  | race=>exact (by decide +kernel:decide (V.str (strOf (ascii "race"))=V.str (strOf (ascii "avg")))=false)
  | place n p s=>exact (by decide +kernel:decide (V.str (strOf (ascii "place"))=V.str (strOf (ascii "avg")))=false)
  | miss n=>exact (by decide +kernel:decide (V.str (strOf (ascii "miss"))=V.str (strOf (ascii "avg")))=false)
  | dis n=>exact (by decide +kernel:decide (V.str (strOf (ascii "dis"))=V.str (strOf (ascii "avg")))=false)
  | avg n=>exact (by decide +kernel:decide (V.str (strOf (ascii "avg"))=V.str (strOf (ascii "avg")))=true)
  | pen n k=>exact (by decide +kernel:decide (V.str (strOf (ascii "pen"))=V.str (strOf (ascii "avg")))=false)
theorem word_dis (o:Option Line):decide (V.str (strOf (wordOf o))=V.str "dis")=Rc.isDis o:=by
 rw [←w_dis]
 cases o with
 | none=>decide +kernel
 | some l=>cases l with
  | boat n=>exact (by decide +kernel:decide (V.str (strOf (ascii "boat"))=V.str (strOf (ascii "dis")))=false)
  | out r k=>exact (by decide +kernel:decide (V.str (strOf (ascii "out"))=V.str (strOf (ascii "dis")))=false)
  | race=>exact (by decide +kernel:decide (V.str (strOf (ascii "race"))=V.str (strOf (ascii "dis")))=false)
  | place n p s=>exact (by decide +kernel:decide (V.str (strOf (ascii "place"))=V.str (strOf (ascii "dis")))=false)
  | miss n=>exact (by decide +kernel:decide (V.str (strOf (ascii "miss"))=V.str (strOf (ascii "dis")))=false)
  | dis n=>exact (by decide +kernel:decide (V.str (strOf (ascii "dis"))=V.str (strOf (ascii "dis")))=true)
  | avg n=>exact (by decide +kernel:decide (V.str (strOf (ascii "avg"))=V.str (strOf (ascii "dis")))=false)
  | pen n k=>exact (by decide +kernel:decide (V.str (strOf (ascii "pen"))=V.str (strOf (ascii "dis")))=false)
theorem word_place (o:Option Line):decide (V.str (strOf (wordOf o))=V.str "place")=isPlace o:=by
 rw [←w_place]
 cases o with
 | none=>decide +kernel
 | some l=>cases l with
  | boat n=>exact (by decide +kernel:decide (V.str (strOf (ascii "boat"))=V.str (strOf (ascii "place")))=false)
  | out r k=>exact (by decide +kernel:decide (V.str (strOf (ascii "out"))=V.str (strOf (ascii "place")))=false)
  | race=>exact (by decide +kernel:decide (V.str (strOf (ascii "race"))=V.str (strOf (ascii "place")))=false)
  | place n p s=>exact (by decide +kernel:decide (V.str (strOf (ascii "place"))=V.str (strOf (ascii "place")))=true)
  | miss n=>exact (by decide +kernel:decide (V.str (strOf (ascii "miss"))=V.str (strOf (ascii "place")))=false)
  | dis n=>exact (by decide +kernel:decide (V.str (strOf (ascii "dis"))=V.str (strOf (ascii "place")))=false)
  | avg n=>exact (by decide +kernel:decide (V.str (strOf (ascii "avg"))=V.str (strOf (ascii "place")))=false)
  | pen n k=>exact (by decide +kernel:decide (V.str (strOf (ascii "pen"))=V.str (strOf (ascii "place")))=false)
theorem is_boat (l:Line):decide (V.str (strOf (Rc.lineP l).1)=V.str "boat")=(match l with | .boat _=>true | _=>false):=by
 rw [←w_boat]
 cases l with
 | boat n=>exact (by decide +kernel:decide (V.str (strOf (ascii "boat"))=V.str (strOf (ascii "boat")))=true)
 | out r k=>exact (by decide +kernel:decide (V.str (strOf (ascii "out"))=V.str (strOf (ascii "boat")))=false)
 | race=>exact (by decide +kernel:decide (V.str (strOf (ascii "race"))=V.str (strOf (ascii "boat")))=false)
 | place n p s=>exact (by decide +kernel:decide (V.str (strOf (ascii "place"))=V.str (strOf (ascii "boat")))=false)
 | miss n=>exact (by decide +kernel:decide (V.str (strOf (ascii "miss"))=V.str (strOf (ascii "boat")))=false)
 | dis n=>exact (by decide +kernel:decide (V.str (strOf (ascii "dis"))=V.str (strOf (ascii "boat")))=false)
 | avg n=>exact (by decide +kernel:decide (V.str (strOf (ascii "avg"))=V.str (strOf (ascii "boat")))=false)
 | pen n k=>exact (by decide +kernel:decide (V.str (strOf (ascii "pen"))=V.str (strOf (ascii "boat")))=false)
theorem is_out (l:Line):decide (V.str (strOf (Rc.lineP l).1)=V.str "out")=(match l with | .out _ _=>true | _=>false):=by
 rw [←w_out]
 cases l with
 | boat n=>exact (by decide +kernel:decide (V.str (strOf (ascii "boat"))=V.str (strOf (ascii "out")))=false)
 | out r k=>exact (by decide +kernel:decide (V.str (strOf (ascii "out"))=V.str (strOf (ascii "out")))=true)
 | race=>exact (by decide +kernel:decide (V.str (strOf (ascii "race"))=V.str (strOf (ascii "out")))=false)
 | place n p s=>exact (by decide +kernel:decide (V.str (strOf (ascii "place"))=V.str (strOf (ascii "out")))=false)
 | miss n=>exact (by decide +kernel:decide (V.str (strOf (ascii "miss"))=V.str (strOf (ascii "out")))=false)
 | dis n=>exact (by decide +kernel:decide (V.str (strOf (ascii "dis"))=V.str (strOf (ascii "out")))=false)
 | avg n=>exact (by decide +kernel:decide (V.str (strOf (ascii "avg"))=V.str (strOf (ascii "out")))=false)
 | pen n k=>exact (by decide +kernel:decide (V.str (strOf (ascii "pen"))=V.str (strOf (ascii "out")))=false)
theorem is_race (l:Line):decide (V.str (strOf (Rc.lineP l).1)=V.str "race")=(match l with | .race=>true | _=>false):=by
 rw [←w_race]
 cases l with
 | boat n=>exact (by decide +kernel:decide (V.str (strOf (ascii "boat"))=V.str (strOf (ascii "race")))=false)
 | out r k=>exact (by decide +kernel:decide (V.str (strOf (ascii "out"))=V.str (strOf (ascii "race")))=false)
 | race=>exact (by decide +kernel:decide (V.str (strOf (ascii "race"))=V.str (strOf (ascii "race")))=true)
 | place n p s=>exact (by decide +kernel:decide (V.str (strOf (ascii "place"))=V.str (strOf (ascii "race")))=false)
 | miss n=>exact (by decide +kernel:decide (V.str (strOf (ascii "miss"))=V.str (strOf (ascii "race")))=false)
 | dis n=>exact (by decide +kernel:decide (V.str (strOf (ascii "dis"))=V.str (strOf (ascii "race")))=false)
 | avg n=>exact (by decide +kernel:decide (V.str (strOf (ascii "avg"))=V.str (strOf (ascii "race")))=false)
 | pen n k=>exact (by decide +kernel:decide (V.str (strOf (ascii "pen"))=V.str (strOf (ascii "race")))=false)
theorem is_pen (l:Line):decide (V.str (strOf (Rc.lineP l).1)=V.str "pen")=(match l with | .pen _ _=>true | _=>false):=by
 rw [←w_pen]
 cases l with
 | boat n=>exact (by decide +kernel:decide (V.str (strOf (ascii "boat"))=V.str (strOf (ascii "pen")))=false)
 | out r k=>exact (by decide +kernel:decide (V.str (strOf (ascii "out"))=V.str (strOf (ascii "pen")))=false)
 | race=>exact (by decide +kernel:decide (V.str (strOf (ascii "race"))=V.str (strOf (ascii "pen")))=false)
 | place n p s=>exact (by decide +kernel:decide (V.str (strOf (ascii "place"))=V.str (strOf (ascii "pen")))=false)
 | miss n=>exact (by decide +kernel:decide (V.str (strOf (ascii "miss"))=V.str (strOf (ascii "pen")))=false)
 | dis n=>exact (by decide +kernel:decide (V.str (strOf (ascii "dis"))=V.str (strOf (ascii "pen")))=false)
 | avg n=>exact (by decide +kernel:decide (V.str (strOf (ascii "avg"))=V.str (strOf (ascii "pen")))=false)
 | pen n k=>exact (by decide +kernel:decide (V.str (strOf (ascii "pen"))=V.str (strOf (ascii "pen")))=true)
theorem is_place (l:Line):decide (V.str (strOf (Rc.lineP l).1)=V.str "place")=(match l with | .place _ _ _=>true | _=>false):=by
 rw [←w_place]
 cases l with
 | boat n=>exact (by decide +kernel:decide (V.str (strOf (ascii "boat"))=V.str (strOf (ascii "place")))=false)
 | out r k=>exact (by decide +kernel:decide (V.str (strOf (ascii "out"))=V.str (strOf (ascii "place")))=false)
 | race=>exact (by decide +kernel:decide (V.str (strOf (ascii "race"))=V.str (strOf (ascii "place")))=false)
 | place n p s=>exact (by decide +kernel:decide (V.str (strOf (ascii "place"))=V.str (strOf (ascii "place")))=true)
 | miss n=>exact (by decide +kernel:decide (V.str (strOf (ascii "miss"))=V.str (strOf (ascii "place")))=false)
 | dis n=>exact (by decide +kernel:decide (V.str (strOf (ascii "dis"))=V.str (strOf (ascii "place")))=false)
 | avg n=>exact (by decide +kernel:decide (V.str (strOf (ascii "avg"))=V.str (strOf (ascii "place")))=false)
 | pen n k=>exact (by decide +kernel:decide (V.str (strOf (ascii "pen"))=V.str (strOf (ascii "place")))=false)
end Rv
end
section
namespace Rv
open PySem PySem.Spec PyProof.Rows L2
open RgScore (Bytes Name Line Series boats outs races ownOf penOf ascii)
section
variable {P:Program} {w:World} {K:PySem.W.Frag} {mg:Str→Option Value} {base:Heap}
def spGcd:Sp:=fun vs H Q _=>∃ a b:Nat,vs=[natV a,natV b]∧Q (natV (Nat.gcd a b)) H
theorem scGcd:FnScope ["one","other","rest"] ["one","other"] (defScope s_greatest_divisor):=⟨rfl,rfl,rfl,by decide +kernel,rfl,by decide +kernel,by decide +kernel⟩
def slotN (σ:L2.St) (i:Nat):Nat:=match σ[i]? with
 | some (some (.int z))=>z.toNat
 | _=>0
theorem ok_gcd (T:Tx P w K mg):FnOk P w K mg base CX0 1 T.greatest_divisor.f T.greatest_divisor.fd ["one","other"] spGcd:=by
 have nd:=scGcd.nd
 refine T.greatest_divisor.fn.ok scGcd (fun vs H Q E h=>?_) (fun cdv A outer s H vs Q E hr h=>?_)
 ·obtain ⟨a,b,rfl,_⟩:=h
  rfl
 obtain ⟨a,b,rfl,q⟩:=h
 refine ⟨_,pss_cons (ps_while PassesOwn.never (pt_cmpR op_ne (pv 1) pe_int (nomark _))
   (pss_cons (ps_set (i:=2) nd rfl (Or.inl rfl) (pe_op op_mod (pv 0) (pv 1)))
   (pss_cons (ps_set (i:=0) nd rfl (Or.inl rfl) (pv 1))
   (pss_one (ps_set (i:=1) nd rfl (Or.inl rfl) (pv 2))))))
  (pss_one (ps_ret (pv 0))),?_⟩
 refine while_by (fun σ H'=>H'=H∧∃ (x y:Nat) (v:Option V),σ=[some (natV x),some (natV y),v]∧Nat.gcd x y=Nat.gcd a b) (fun σ _=>slotN σ 1) ⟨rfl,a,b,none,rfl,rfl⟩ ?_ ?_
 ·rintro σ H' ⟨rfl,x,y,v,rfl,hg⟩
  refine (evt_test (ev_ne (x:=natV y) (y:=.int 0) (ev_var rfl) ev_c):EvT _ _ _ _) _ ?_
  by_cases hy:y=0
  ·subst hy
   refine iteF ?_
   rw [Nat.gcd_zero_right] at hg
   subst hg
   exact ⟨_,rfl,q⟩
  ·have e:(!decide (natV y=V.int 0))=true:=by
    rw [decide_eq_false (fun z=>hy (by injection z with z; omega))]
    rfl
   rw [e]
   refine iteT ⟨_,rfl,_,rfl,x,y,rfl,rfl,(by omega),_,rfl,_,rfl,⟨rfl,y,x % y,some (natV (x % y)),?_,?_⟩,?_⟩
   ·show [some (V.int (y:Int)),some (V.int ((x:Int) % (y:Int))),some (V.int ((x:Int) % (y:Int)))]=_
    rw [show ((x:Int) % (y:Int))=((x % y:Nat):Int) by simp]
    rfl
   ·rw [←hg,Nat.gcd_comm y,←Nat.gcd_rec,Nat.gcd_comm]
   ·show ((x:Int) % (y:Int)).toNat < ((y:Int)).toNat
    have h1:=Int.emod_lt_of_pos (x:Int) (show (0:Int) < y by omega)
    have h2:=Int.emod_nonneg (x:Int) (show (y:Int)≠0 by omega)
    omega
 ·rintro σ H' Q1 Q2 hq ⟨v,e,hs,k,ek,z⟩
  exact ⟨v,e,hs,k,ek,hq _ _ z⟩
def spLowest:Sp:=fun vs H Q _=>∃ n d:Nat,vs=[natV n,natV d]∧0 < d∧d < 2 ^ 60∧∀ (H':Hp) (p:Addr),Same H H'→H p=none→H' p=some (.tup [natV (RgScore.lowest n d).1,natV (RgScore.lowest n d).2])→Q (.ref p) H'
theorem scLowest:FnScope ["top","bottom","divisor"] ["top","bottom"] (defScope s_lowest_terms):=⟨rfl,rfl,rfl,by decide +kernel,rfl,by decide +kernel,by decide +kernel⟩
theorem ok_lowest (T:Tx P w K mg):FnOk P w K mg base CX0 2 T.lowest_terms.f T.lowest_terms.fd ["top","bottom"] spLowest:=by
 have nd:=scLowest.nd
 have G:=ok_gcd (base:=base) T
 refine T.lowest_terms.fn.ok scLowest (fun vs H Q E h=>?_) (fun cdv A outer s H vs Q E hr h=>?_)
 ·obtain ⟨a,b,rfl,_⟩:=h
  rfl
 obtain ⟨n,d,rfl,h0,h1,q⟩:=h
 refine ⟨_,pss_cons (ps_set (i:=2) nd rfl (Or.inl rfl) (pe_call G (hr.mono (by decide)) rfl T.greatest_divisor.gl T.greatest_divisor.fn.kp T.greatest_divisor.bd .nil pass0 (pa_cons (pv 0) (pa_cons (pv 1) pa_nil))))
  (pss_one (ps_ret (pe_tup (pa_cons (pe_op op_fdivW (pv 0) (pv 2)) (pa_cons (pe_op op_fdivW (pv 1) (pv 2)) pa_nil))))),?_⟩
 have hg0:0 < Nat.gcd n d:=Nat.gcd_pos_of_pos_right _ h0
 have hg1:Nat.gcd n d≤d:=Nat.gcd_le_right _ h0
 have hC:∀ i:Int,CDivW i (Nat.gcd n d:Int):=fun i=>⟨by omega,by omega⟩
 refine ⟨_,rfl,_,rfl,n,d,rfl,?_⟩
 refine ⟨_,rfl,_,rfl,n,Nat.gcd n d,rfl,rfl,hC _,_,rfl,_,rfl,d,Nat.gcd n d,rfl,rfl,hC _,(by show 2≤sizeLine; decide),fun p hp=>?_⟩
 refine q _ p (Same.new hp) hp ?_
 rw [upd_same]
 rfl
def spFrac:Sp:=fun vs H Q _=>∃ z:Nat,vs=[natV z]∧∀ (H':Hp) (p:Addr),Same H H'→H p=none→H' p=some (.lst (natsV [(Rc.fr z).1,(Rc.fr z).2]))→Q (.ref p) H'
theorem scFrac:FnScope ["parts"] ["parts"] (defScope s_told_fraction):=⟨rfl,rfl,rfl,by decide +kernel,rfl,by decide +kernel,by decide +kernel⟩
theorem ok_frac (T:Tx P w K mg):FnOk P w K mg base CX0 3 T.told_fraction.f T.told_fraction.fd ["parts"] spFrac:=by
 have nd:=scFrac.nd
 have G:=ok_lowest (base:=base) T
 refine T.told_fraction.fn.ok scFrac (fun vs H Q E h=>?_) (fun cdv A outer s H vs Q E hr h=>?_)
 ·obtain ⟨a,rfl,_⟩:=h
  rfl
 obtain ⟨z,rfl,q⟩:=h
 refine ⟨_,pss_one (ps_ret (pe_callTy call_list_of (by rfl) T.n_list PyProof.Rows.boot_list (pa_cons (pe_call G (hr.mono (by decide)) rfl T.lowest_terms.gl T.lowest_terms.fn.kp T.lowest_terms.bd .nil pass0 (pa_cons (pv 0) (pa_cons (pe_gi T.g_PARTS rfl) pa_nil))) pa_nil))),?_⟩
 refine ⟨_,rfl,z,Rc.PARTS,rfl,by decide,by decide,fun H1 p s1 hp h1=>?_⟩
 refine ⟨p,_,rfl,.inr (SqT.of h1),fun l hl=>?_⟩
 exact q _ l (s1.put (s1.free hl)) (s1.free hl) (by rw [upd_same]; rfl)
section
variable {cR cS:Addr} {σ:L2.St} {H:Hp} {a:SerAd} {c:Series} {t:Bytes} {te:TE}
theorem SerAt.evBoats (T:Tx P w K mg) (S:SerAt T.Race.C T.Series.C H a c t) (e:Ev te σ H (.ref a.o)):Ev (tFld K te "boats") σ H (.ref a.bd):=let ⟨_,h⟩:=S.obj; ev_fld e h T.Series.cl T.a_Series_boats (ser_boats _ _ _ _ _)
theorem SerAt.evOuts (T:Tx P w K mg) (S:SerAt T.Race.C T.Series.C H a c t) (e:Ev te σ H (.ref a.o)):Ev (tFld K te "outs") σ H (.ref a.od):=let ⟨_,h⟩:=S.obj; ev_fld e h T.Series.cl T.a_Series_outs (ser_outs _ _ _ _ _)
theorem SerAt.evRaces (T:Tx P w K mg) (S:SerAt T.Race.C T.Series.C H a c t) (e:Ev te σ H (.ref a.o)):Ev (tFld K te "races") σ H (.ref a.rl):=let ⟨_,h⟩:=S.obj; ev_fld e h T.Series.cl T.a_Series_races (ser_races _ _ _ _ _)
theorem SerAt.evCodes (T:Tx P w K mg) (S:SerAt T.Race.C T.Series.C H a c t) (e:Ev te σ H (.ref a.o)):Ev (tFld K te "codes") σ H (.ref a.cd):=let ⟨_,h⟩:=S.obj; ev_fld e h T.Series.cl T.a_Series_codes (ser_codes _ _ _ _ _)
theorem SerAt.evCount (T:Tx P w K mg) (S:SerAt T.Race.C T.Series.C H a c t) (e:Ev te σ H (.ref a.o)):Ev (tFld K te "line_count") σ H (natV c.length):=let ⟨_,h⟩:=S.obj; ev_fld e h T.Series.cl T.a_Series_line_count (ser_count _ _ _ _ _)
theorem SerAt.nb (S:SerAt cR cS H a c t) (e:Ev te σ H (.ref a.bd)):Ev (tCB (fun xs H Q=>∃ a kvs,xs=[V.ref a]∧H a=some (.dK kvs)∧Q (.int kvs.length) H) (tCons te tNil)) σ H (natV (boats c).length):=by
 obtain ⟨kvs,h1,h2,_⟩:=S.hBoats
 rw [←h2]
 exact ev_lenD e h1
theorem SerAt.nr (S:SerAt cR cS H a c t) (e:Ev te σ H (.ref a.rl)):Ev (tCB (fun xs H Q=>∃ p ys,xs=[.ref p]∧(SqL K H p ys∨SqT K H p ys)∧Q (.int ys.length) H) (tCons te tNil)) σ H (natV (races c).length):=by
 have:=ev_lenL (K:=K) e (SqL.of S.hRaces.1)
 rw [List.length_map,S.hRaces.2.1] at this
 exact this
theorem SerAt.no (S:SerAt cR cS H a c t) (e:Ev te σ H (.ref a.od)):Ev (tCB (fun xs H Q=>∃ p ys,xs=[.ref p]∧(SqL K H p ys∨SqT K H p ys)∧Q (.int ys.length) H) (tCons te tNil)) σ H (natV (outs c).length):=by
 have:=ev_lenL (K:=K) e (SqL.of S.hOuts.1)
 rw [List.length_map,S.hOuts.2.1] at this
 exact this
end
def spMost (T:Tx P w K mg):Sp:=fun vs H Q _=>∃ (a:SerAd) (c:Series) (t:Bytes),vs=[.ref a.o]∧SerAt T.Race.C T.Series.C H a c t∧Q (natV (((boats c).length + 1) * Rc.PARTS)) H
theorem scMost:FnScope ["series"] ["series"] (defScope s_most_points):=⟨rfl,rfl,rfl,by decide +kernel,rfl,by decide +kernel,by decide +kernel⟩
theorem ok_most (T:Tx P w K mg):FnOk P w K mg base CX0 1 T.most_points.f T.most_points.fd ["series"] (spMost T):=by
 refine T.most_points.fn.ok scMost (fun vs H Q E h=>?_) (fun cdv A outer s H vs Q E hr h=>?_)
 ·obtain ⟨a,c,t,rfl,_⟩:=h
  rfl
 obtain ⟨a,c,t,rfl,S,q⟩:=h
 have hb:=S.good.facts.nb
 refine ⟨_,pss_one (ps_ret (pe_op op_mul (pe_op op_add (pe_callB call_lenD (by rfl) T.n_len PySem.boot_len (pa_cons (pe_fld (pv 0) rfl) pa_nil)) pe_int) (pe_gi T.g_PARTS rfl))),?_⟩
 refine ev_iC (ev_i0 (i:=(boats c).length) (S.nb (S.evBoats T (ev_var rfl))) ev_c) ev_c (.inl ⟨by omega,by omega⟩) _ ?_
 have e:natV (((boats c).length + 1) * Rc.PARTS)=V.int ((((boats c).length:Nat) + 1:Int) * 288807105787200):=by
  unfold natV Rc.PARTS
  congr 1
 rw [e] at q
 exact q
def spWord (cR:Addr):Sp:=fun vs H Q _=>∃ (x:RaceAd) (ok:Addr→Prop) (bs:List Name) (m:Nat) (ls:List Line) (i:Nat) (n:Name),vs=[.ref x.o,natV i]∧RaceAt cR ok H bs m ls x∧bs[i]?=some n∧Q (.str (strOf (wordOf (ownOf ls n)))) H
theorem scWord:FnScope ["race","boat"] ["race","boat"] (defScope s_result_word):=⟨rfl,rfl,rfl,by decide +kernel,rfl,by decide +kernel,by decide +kernel⟩
theorem ok_word (T:Tx P w K mg):FnOk P w K mg base CX0 1 T.result_word.f T.result_word.fd ["race","boat"] (spWord T.Race.C):=by
 refine T.result_word.fn.ok scWord (fun vs H Q E h=>?_) (fun cdv A outer s H vs Q E hr h=>?_)
 ·obtain ⟨x,ok,bs,m,ls,i,n,rfl,_⟩:=h
  rfl
 obtain ⟨x,ok,bs,m,ls,i,n,rfl,R,hn,q⟩:=h
 have hu:=hu_of hr
 obtain ⟨dx,ho⟩:=R.obj
 obtain ⟨kvs,hk,hm,hres⟩:=R.res
 have h1:=hres i n hn
 refine ⟨_,pss_cons (ps_if (pt_cmp (pc_din hu (pv 1) (pe_fld (pv 0) rfl)))
   (pss_one (ps_ret (pe_ix ix_tup (pe_dget hu (pe_fld (pv 0) rfl) (pv 1) (fun _ _=>rfl)) pe_int (fun _ _=>rfl)))) pss_nil)
  (pss_one (ps_ret pe_str)),?_⟩
 ((try dsimp only [tSeq,tNext,gName]); apply rd_if; exact (evt_B (ev_din (k:=Sum.inl (i:Int)) (ev_var rfl) (ev_fld (ev_var rfl) ho T.Race.cl T.a_Race_results (race_res _ _)) hk)))
 ·intro h
  cases e:valV kvs (Sum.inl (i:Int)) with
  | none=>rw [e] at h; cases h
  | some v =>
   cases e2:ownOf ls n with
   | none=>rw [e,e2] at h1; exact h1.elim
   | some l =>
    rw [e,e2] at h1
    obtain ⟨t,na,rfl,ht,_,_⟩:=h1
    rw [e2] at q
    exact ev_ixT (ev_dget (k:=Sum.inl (i:Int)) (ev_fld (ev_var rfl) ho T.Race.cl T.a_Race_results (race_res _ _)) (ev_var rfl) hk e) ev_c (SqT.of ht) (at_ix (j:=0) rfl rfl) _ q
 ·intro h
  cases e:valV kvs (Sum.inl (i:Int)) with
  | some v=>rw [e] at h; cases h
  | none =>
   cases e2:ownOf ls n with
   | some l=>rw [e,e2] at h1; exact h1.elim
   | none =>
    rw [e2] at q
    have:strOf (wordOf none)="miss":=w_miss
    rw [this] at q
    exact q
theorem ev_dget2 {σ:L2.St} {H:Hp} {ta tb tc:TE} {z:V} {p:Addr} {kvs:List (Key×V)} {k:Key} (a:Ev ta σ H (.ref p)) (b:Ev tb σ H (kV k)) (d:Ev tc σ H z) (h:H p=some (.dK kvs)):Ev (tDGet2 ta tb tc) σ H ((valV kvs k).getD z) :=
 fun Q q=>a _ ⟨p,rfl,.inl ⟨kvs,.inl h⟩,b _ (d _ ⟨_,DGet.k h,q⟩)⟩
theorem getD_natV (o:Option Nat) (k:Nat):(o.map natV).getD (natV k)=natV (o.getD k):=by cases o <;> rfl
theorem base_else {n:Nat} {o:Option Line} (h:isPlace o=false):Rc.basePts n o=(n + 1) * Rc.PARTS:=by
 cases o with
 | none=>rfl
 | some l=>cases l <;> cases h <;> rfl
def spOwn (T:Tx P w K mg):Sp:=fun vs H Q _=>∃ (a:SerAd) (c:Series) (t:Bytes) (x:RaceAd) (ok:Addr→Prop) (m:Nat) (ls:List Line) (i:Nat) (n:Name),vs=[.ref a.o,.ref x.o,natV i]∧SerAt T.Race.C T.Series.C H a c t∧RaceAt T.Race.C ok H (boats c) m ls x∧ls∈races c ∧
 (boats c)[i]?=some n∧Q (natV (Rc.own1 (boats c).length n ls)) H
theorem scOwn:FnScope ["series","race","boat","points","numbers"] ["series","race","boat"] (defScope s_own_points):=⟨rfl,rfl,rfl,by decide +kernel,rfl,by decide +kernel,by decide +kernel⟩
theorem ok_own (T:Tx P w K mg):FnOk P w K mg base CX0 2 T.own_points.f T.own_points.fd ["series","race","boat"] (spOwn T):=by
 have nd:=scOwn.nd
 have G1:=ok_most (base:=base) T
 have G2:=ok_word (base:=base) T
 refine T.own_points.fn.ok scOwn (fun vs H Q E h=>?_) (fun cdv A outer s H vs Q E hr h=>?_)
 ·obtain ⟨a,c,t,x,ok,m,ls,i,n,rfl,_⟩:=h
  rfl
 obtain ⟨a,c,t,x,ok,m,ls,i,n,rfl,S,R,hls,hn,q⟩:=h
 have hu:=hu_of hr
 obtain ⟨dx,ho⟩:=R.obj
 obtain ⟨kvs,hk,hm,hres⟩:=R.res
 obtain ⟨kvp,hkp,hmp,hpen⟩:=R.pen
 have h1:=hres i n hn
 have hp1:=hpen i n hn
 have F:=S.good.facts
 have tl:∃ tt,PSs (cxOf CX0 P w K mg base ["series","race","boat","points","numbers"] "own_points" (defScope s_own_points) T.own_points.f cdv A outer s H E).nox ((defBody s_own_points).drop 2) tt ∧
   ∀ v4:Option V,tt { nx:=fun _ H'=>Q .non H',rt:=Q } [some (.ref a.o),some (.ref x.o),some (natV i),some (natV (Rc.basePts (boats c).length (ownOf ls n))),v4] H:=by
  refine ⟨_,pss_one (ps_ret (pe_callB (call_min2 rfl) (by rfl) T.n_min PyProof.Rows.boot_min (pa_cons (pe_op op_add (pv 3) (pe_op op_mul (pe_dget2 hu (pe_fld (pv 1) rfl) (pv 2) pe_int ⟨rfl,rfl,rfl,rfl⟩) (pe_gi T.g_PARTS rfl))) (pa_cons (pe_call G1 (hr.mono (by decide)) rfl T.most_points.gl T.most_points.fn.kp T.most_points.bd .nil pass0 (pa_cons (pv 0) pa_nil)) pa_nil)))),fun v4=>?_⟩
  refine ev_cb (eva_cons (ev_add (ev_var rfl) (ev_mul (i:=((penOf ls n).getD 0:Nat)) ?_ ev_c (.inr ⟨by decide,by decide⟩))) (eva_cons (ev_call (v:=natV (((boats c).length + 1) * Rc.PARTS)) (eva_cons (ev_var rfl) eva_nil) fun Q q=>⟨a,c,t,rfl,S,q⟩) eva_nil)) (fun Q q=>⟨_,_,rfl,q⟩) _ ?_
  ·have:=ev_dget2 (k:=Sum.inl (i:Int)) (z:=natV 0) (ev_fld (K:=K) (ta:=tVar 1) (σ:=[some (.ref a.o),some (.ref x.o),some (natV i),some (natV (Rc.basePts (boats c).length (ownOf ls n))),v4]) (ev_var rfl) ho T.Race.cl T.a_Race_pens (race_pens _ _)) (tb:=tVar 2) (tc:=tC (.int 0)) (ev_var (v:=natV i) rfl) ev_c hkp
   rw [hp1,getD_natV] at this
   exact this
  ·have e:natV (Rc.own1 (boats c).length n ls)=V.int (if ((((boats c).length + 1) * Rc.PARTS:Nat):Int) < ((Rc.basePts (boats c).length (ownOf ls n):Nat):Int) + (((penOf ls n).getD 0:Nat):Int) * 288807105787200 then ((((boats c).length + 1) * Rc.PARTS:Nat):Int) else ((Rc.basePts (boats c).length (ownOf ls n):Nat):Int) + (((penOf ls n).getD 0:Nat):Int) * 288807105787200):=by
    unfold natV Rc.own1 Rc.ownPts
    congr 1
    have:((Rc.basePts (boats c).length (ownOf ls n):Nat):Int) + (((penOf ls n).getD 0:Nat):Int) * 288807105787200=((Rc.basePts (boats c).length (ownOf ls n) + (penOf ls n).getD 0 * Rc.PARTS:Nat):Int):=by
     unfold Rc.PARTS
     simp
    rw [this]
    split
    ·rw [Nat.min_eq_right (by omega)]
    ·rw [Nat.min_eq_left (by omega)]
   rw [e] at q
   exact q
 obtain ⟨tt,hT,tail⟩:=tl
 refine ⟨_,pss_cons (ps_set (i:=3) nd rfl (Or.inl rfl) (pe_call G1 (hr.mono (by decide)) rfl T.most_points.gl T.most_points.fn.kp T.most_points.bd .nil pass0 (pa_cons (pv 0) pa_nil)))
  (pss_cons (ps_if (pt_cmpR op_eq (pe_call G2 (hr.mono (by decide)) rfl T.result_word.gl T.result_word.fn.kp T.result_word.bd .nil pass0 (pa_cons (pv 1) (pa_cons (pv 2) pa_nil))) pe_str (nomark _))
   (pss_cons (ps_set (i:=4) nd rfl (Or.inl rfl) (pe_ix ix_tup (pe_dget hu (pe_fld (pv 1) rfl) (pv 2) (fun _ _=>rfl)) pe_int (fun _ _=>rfl)))
   (pss_one (ps_set (i:=3) nd rfl (Or.inl rfl) (pe_op op_add (pe_op op_mul (pe_ix ix_list (pv 4) pe_int (fun _ _=>rfl)) (pe_gi T.g_PARTS rfl)) (pe_op op_mul (pe_op op_sub (pe_ix ix_list (pv 4) pe_int (fun _ _=>rfl)) pe_int) (pe_op op_fdiv (pe_gi T.g_PARTS rfl) pe_int))))))
   pss_nil)
  hT),?_⟩
 refine ⟨_,rfl,a,c,t,rfl,S,?_⟩
 ((try dsimp only [tSeq,tNext,gName]); apply rd_if; exact (evt_test (ev_eq (ev_call (eva_cons (ev_var rfl) (eva_cons (ev_var rfl) eva_nil)) fun Q q=>⟨x,ok,boats c,m,ls,i,n,rfl,R,hn,q⟩) ev_c)))
 ·intro h
  rw [word_place] at h
  cases e2:ownOf ls n with
  | none=>rw [e2] at h; cases h
  | some l =>
   cases l with
   | place nm p s =>
    obtain ⟨f1,f2,f3⟩:=F.place ls hls _ (Rc.ownOf_mem e2).1 nm p s rfl
    cases e:valV kvs (Sum.inl (i:Int)) with
    | none=>rw [e,e2] at h1; exact h1.elim
    | some v =>
     rw [e,e2] at h1
     obtain ⟨t',na,rfl,ht,hna,_⟩:=h1
     refine ev_ixT (ev_dget (k:=Sum.inl (i:Int)) (ev_fld (ev_var rfl) ho T.Race.cl T.a_Race_results (race_res _ _)) (ev_var rfl) hk e) ev_c (SqT.of ht) (at_ix (j:=1) rfl rfl) _ ?_
     refine ev_add (ev_mul (i:=(p:Nat)) (ev_ixL (ev_var rfl) ev_c (SqL.of hna) (at_ix (j:=0) rfl rfl)) ev_c (.inr ⟨by decide,by decide⟩)) (ev_mul (ev_sub (i:=(s:Nat)) (ev_ixL (ev_var rfl) ev_c (SqL.of hna) (at_ix (j:=1) rfl rfl)) ev_c) (ev_fdiv ev_c ev_c ⟨by decide,by decide⟩) (.inr ⟨by decide,by decide⟩)) _ ?_
     have:=tail (some (.ref na))
     rw [e2] at this
     have e3:natV (Rc.basePts (boats c).length (some (.place nm p s)))=V.int ((p:Int) * 288807105787200 + ((s:Int) - 1) * (288807105787200 / 2)):=by
      show V.int ((p * Rc.PARTS + (s - 1) * Rc.HALF:Nat):Int)=_
      congr 1
      unfold Rc.PARTS Rc.HALF
      omega
     rw [e3] at this
     exact this
   | _=>rw [e2] at h; cases h
 ·intro h
  rw [word_place] at h
  have:=tail none
  rw [base_else h] at this
  exact this
end
end Rv
end
section
namespace Rv
open PySem PySem.Spec PyProof.Rows L2
open RgScore (Bytes Name Line Series boats outs races ownOf penOf ascii)
theorem cut_to (xs:List V) (n:Nat):cutV xs none (some (n:Int))=xs.take n:=by
 unfold cutV HT.sIx
 dsimp only
 rw [if_neg (by omega),Int.toNat_natCast,List.drop_zero,Nat.sub_zero]
 by_cases h:n≤xs.length
 ·rw [Nat.min_eq_left h]
 ·rw [Nat.min_eq_right (by omega),List.take_of_length_le (Nat.le_refl _),List.take_of_length_le (by omega)]
theorem natsI_sum:∀ l:List Nat,(natsI l).sum=((l.sum:Nat):Int)
 | []=>rfl
 | x::l=>by
  show ((x:Int)::natsI l).sum=_
  rw [List.sum_cons,natsI_sum l,List.sum_cons]
  simp
theorem natsV_len (l:List Nat):(natsV l).length=l.length:=by unfold natsV; rw [List.length_map]
theorem natsV_snoc (l:List Nat) (n:Nat):natsV l++[natV n]=natsV (l++[n]):=by unfold natsV; rw [List.map_append]; rfl
section
variable {P:Program} {w:World} {K:PySem.W.Frag} {mg:Str→Option Value} {base:Heap}
theorem SerAt.race {cR cS:Addr} {H:Hp} {a:SerAd} {c:Series} {t:Bytes} (S:SerAt cR cS H a c t) {r k:Nat} {y:V} (h:((a.rs.map fun x=>V.ref x.o).take r)[k]?=some y) :
  ∃ x ls,y=.ref x.o∧((races c).take r)[k]?=some ls∧ls∈races c∧RaceAt cR a.okn H (boats c) c.length ls x:=by
 rw [List.getElem?_take] at h
 by_cases hk:k < r
 ·rw [if_pos hk,List.getElem?_map] at h
  cases e:a.rs[k]? with
  | none=>rw [e] at h; cases h
  | some x =>
   rw [e] at h
   have hl:k < (races c).length:=by
    have:=(List.getElem?_eq_some_iff.mp e).1
    rw [S.hRaces.2.1] at this
    exact this
   have e2:(races c)[k]?=some (races c)[k]:=List.getElem?_eq_getElem hl
   exact ⟨x,(races c)[k],(Option.some.inj h).symm,by rw [List.getElem?_take,if_pos hk]; exact e2,List.getElem_mem hl,S.hRaces.2.2 k x _ e e2⟩
 ·rw [if_neg hk] at h; cases h
theorem others_snoc (n:Nat) (rs:List (List Line)) (ls:List Line) (b:Name):Rc.othersN n (rs++[ls]) b=Rc.othersN n rs b++(if Rc.isAvg (ownOf ls b)=true then [] else [Rc.own1 n b ls]):=by
 unfold Rc.othersN
 rw [List.filter_append,List.map_append]
 congr 1
 cases h:Rc.isAvg (ownOf ls b) <;> simp [h]
theorem others_len (n:Nat) (rs:List (List Line)) (b:Name):(Rc.othersN n rs b).length≤rs.length:=by
 unfold Rc.othersN
 rw [List.length_map]
 exact List.length_filter_le _ _
def spAvg (T:Tx P w K mg):Sp:=fun vs H Q _=>∃ (a:SerAd) (c:Series) (t:Bytes) (r i:Nat) (n:Name),vs=[.ref a.o,natV r,natV i]∧SerAt T.Race.C T.Series.C H a c t∧(boats c)[i]?=some n ∧
 ∀ H',Same H H'→Q (natV (Rc.avgN (boats c).length ((races c).take r) n)) H'
theorem scAvg:FnScope ["series","r","boat","others","race"] ["series","r","boat"] (defScope s_average_points):=⟨rfl,rfl,rfl,by decide +kernel,rfl,by decide +kernel,by decide +kernel⟩
theorem ok_avg (T:Tx P w K mg):FnOk P w K mg base CX0 3 T.average_points.f T.average_points.fd ["series","r","boat"] (spAvg T):=by
 have nd:=scAvg.nd
 have G1:=ok_most (base:=base) T
 have G2:=ok_word (base:=base) T
 have G3:=ok_own (base:=base) T
 refine T.average_points.fn.ok scAvg (fun vs H Q E h=>?_) (fun cdv A outer s H vs Q E hr h=>?_)
 ·obtain ⟨a,c,t,r,i,n,rfl,_⟩:=h
  rfl
 obtain ⟨a,c,t,r,i,n,rfl,S,hn,q⟩:=h
 have hlen:=S.good.facts.races_len r
 refine ⟨_,pss_cons (ps_setLc (i:=3) rfl nd rfl rfl (sw_true rfl rfl rfl (by decide +kernel)) (pi_list (pe_slice sl_list (pe_fld (pv 0) rfl) po_none (po_some (pv 1)))) (own:=[("race",4)]) (blkOk_by (by rfl)) (fun _ _ _ _ _=>pg_name (i:=4) nd rfl (Or.inl rfl)) (fun _ _ _ _ _=>(pts_one (pt_cmpR op_ne (pe_call G2 (hr.mono (by decide)) rfl T.result_word.gl T.result_word.fn.kp T.result_word.bd .nil pass0 (pa_cons (pv 4) (pa_cons (pv 2) pa_nil))) pe_str (nomark _)))) (fun _ _ _ _ _=>(pe_call G3 (hr.mono (by decide)) rfl T.own_points.gl T.own_points.fn.kp T.own_points.bd .nil pass0 (pa_cons (pv 0) (pa_cons (pv 4) (pa_cons (pv 2) pa_nil))))))
  (pss_cons (ps_if (pt_cmpR op_eq (pe_callB call_len_seq (by rfl) T.n_len PySem.boot_len (pa_cons (pv 3) pa_nil)) pe_int (nomark _))
   (pss_one (ps_ret (pe_call G1 (hr.mono (by decide)) rfl T.most_points.gl T.most_points.fn.kp T.most_points.bd .nil pass0 (pa_cons (pv 0) pa_nil)))) pss_nil)
  (pss_one (ps_ret (pe_op op_fdiv (pe_callB (cr_sum rfl) (by rfl) T.n_sum PyProof.Rows.boot_sum (pa_cons (pv 3) pa_nil)) (pe_callB call_len_seq (by rfl) T.n_len PySem.boot_len (pa_cons (pv 3) pa_nil)))))),?_⟩
 obtain ⟨dS,hS⟩:=S.obj
 refine ⟨_,rfl,a.o,_,dS,_,_,rfl,hS,T.Series.cl,T.a_Series_races,ser_races _ _ _ _ _,_,rfl,r,rfl,a.rl,_,rfl,SqL.of S.hRaces.1,fun p hp=>?_⟩
 rw [cut_to]
 have s0:Same H (upd H p (.lst ((a.rs.map fun x=>V.ref x.o).take r))):=Same.new hp
 refine ⟨p,rfl,⟨_,SqL.of upd_same⟩,fun D hD=>?_⟩
 have hDp:p≠D:=ne_of_none (H:=upd H p (.lst ((a.rs.map fun x=>V.ref x.o).take r))) upd_same hD
 have hD0:H D=none:=s0.free hD
 refine lc_list (K:=K) (a:=p) (xs:=(a.rs.map fun x=>V.ref x.o).take r) (fun k H'=>Same H H'∧H' p=some (.lst ((a.rs.map fun x=>V.ref x.o).take r))∧H' D=some (.lst (natsV (Rc.othersN (boats c).length (((races c).take r).take k) n))))
  ⟨s0.put hD0,by rw [upd_ne hDp]; exact upd_same,upd_same⟩ (fun k H' _ h=>SqL.of h.2.1) ?_ ?_
 ·rintro k y H' hy ⟨s1,h1,h2⟩
  have S':=S.keep (Kp.of s1)
  obtain ⟨x,ls,rfl,hls,hmem,R⟩:=S'.race hy
  refine ⟨rfl,?_⟩
  refine (evt_test (ev_ne (x:=.str (strOf (wordOf (ownOf ls n)))) (ev_call (eva_cons (ev_var rfl) (eva_cons (ev_var rfl) eva_nil)) fun Q q=>⟨x,a.okn,boats c,c.length,ls,i,n,rfl,R,hn,q⟩) ev_c):EvT _ _ _ _) _ ?_
  rw [word_avg]
  have en:=others_snoc (boats c).length (((races c).take r).take k) ls n
  rw [←take_snoc hls] at en
  cases hv:Rc.isAvg (ownOf ls n) with
  | true =>
   refine iteF ⟨s1,h1,?_⟩
   rw [en,hv,if_pos rfl,List.append_nil]
   exact h2
  | false =>
   refine iteT ⟨_,rfl,_,rfl,_,rfl,a,c,t,x,a.okn,c.length,ls,i,n,rfl,S',R,hmem,hn,natsV _,h2,?_,s1.put hD0,by rw [upd_ne hDp]; exact h1,?_⟩
   ·rw [natsV_len]
    have:=others_len (boats c).length (((races c).take r).take k) n
    rw [List.length_take] at this
    exact line10' (by omega)
   ·rw [upd_same,natsV_snoc,en,hv,if_neg Bool.false_ne_true]
 ·rintro H' ⟨s1,h1,h2⟩
  have S':=S.keep (Kp.of s1)
  have ekl:((a.rs.map fun x=>V.ref x.o).take r).length=((races c).take r).length:=by rw [List.length_take,List.length_take,List.length_map,S.hRaces.2.1]
  rw [ekl,List.take_length] at h2
  ((try dsimp only [tSeq,tNext,gName]); apply rd_if; exact (evt_test (ev_eq (ev_lenL (ev_var rfl) (SqL.of h2)) ev_c)))
  ·intro h
   rw [natsV_len] at h
   have hz:(Rc.othersN (boats c).length ((races c).take r) n).length=0:=by
    have:=of_decide_eq_true h
    injection this with this
    omega
   refine ⟨_,rfl,a,c,t,rfl,S',?_⟩
   have:=q H' s1
   unfold Rc.avgN at this
   rw [if_pos hz] at this
   exact this
  ·intro h
   rw [natsV_len] at h
   have hz:¬ (Rc.othersN (boats c).length ((races c).take r) n).length=0:=fun e=>by
    rw [e] at h
    cases h
   have hle:=others_len (boats c).length ((races c).take r) n
   refine ev_fdiv (ev_cb (eva_cons (ev_var rfl) eva_nil) fun Q q=>⟨D,natsI (Rc.othersN (boats c).length ((races c).take r) n),rfl,by rw [←natsV_eq]; exact SqL.of h2,q⟩) (ev_lenL (ev_var rfl) (SqL.of h2)) ⟨by rw [natsV_len]; omega,by rw [natsV_len]; omega⟩ _ ?_
   have:=q H' s1
   unfold Rc.avgN at this
   rw [if_neg hz] at this
   rw [natsI_sum,natsV_len]
   exact this
def spPts (T:Tx P w K mg):Sp:=fun vs H Q _=>∃ (a:SerAd) (c:Series) (t:Bytes) (r i:Nat) (n:Name),vs=[.ref a.o,natV r,natV i]∧SerAt T.Race.C T.Series.C H a c t∧(boats c)[i]?=some n ∧
 ∀ (H':Hp) (p:Addr),Same H H'→H p=none→H' p=some (.lst (natsV (Rc.ptsN (boats c).length ((races c).take r) n)))→Q (.ref p) H'
theorem scPts:FnScope ["series","r","boat","average","points","race"] ["series","r","boat"] (defScope s_points_by_race):=⟨rfl,rfl,rfl,by decide +kernel,rfl,by decide +kernel,by decide +kernel⟩
theorem ok_pts (T:Tx P w K mg):FnOk P w K mg base CX0 4 T.points_by_race.f T.points_by_race.fd ["series","r","boat"] (spPts T):=by
 have nd:=scPts.nd
 have G1:=ok_avg (base:=base) T
 have G2:=ok_word (base:=base) T
 have G3:=ok_own (base:=base) T
 refine T.points_by_race.fn.ok scPts (fun vs H Q E h=>?_) (fun cdv A outer s H vs Q E hr h=>?_)
 ·obtain ⟨a,c,t,r,i,n,rfl,_⟩:=h
  rfl
 obtain ⟨a,c,t,r,i,n,rfl,S,hn,q⟩:=h
 have hlen:=S.good.facts.races_len r
 refine ⟨_,pss_cons (ps_set (i:=3) nd rfl (Or.inl rfl) (pe_call G1 (hr.mono (by decide)) rfl T.average_points.gl T.average_points.fn.kp T.average_points.bd .nil pass0 (pa_cons (pv 0) (pa_cons (pv 1) (pa_cons (pv 2) pa_nil)))))
  (pss_cons (ps_set (i:=4) nd rfl (Or.inl rfl) (pe_lst pa_nil))
  (pss_cons (ps_for PassesOwn.never rfl (pi_list (pe_slice sl_list (pe_fld (pv 0) rfl) po_none (po_some (pv 1)))) (pg_name (i:=5) nd rfl (Or.inl rfl))
   (pss_one (ps_if (pt_cmpR op_eq (pe_call G2 (hr.mono (by decide)) rfl T.result_word.gl T.result_word.fn.kp T.result_word.bd .nil pass0 (pa_cons (pv 5) (pa_cons (pv 2) pa_nil))) pe_str (nomark _))
    (pss_one (ps_expr (pe_bm PySem.F.plainAttrs_list PySem.F.slot_list_append PySem.F.type_list_append mt_append (pv 4) (pa_cons (pv 3) pa_nil))))
    (pss_one (ps_expr (pe_bm PySem.F.plainAttrs_list PySem.F.slot_list_append PySem.F.type_list_append mt_append (pv 4) (pa_cons (pe_call G3 (hr.mono (by decide)) rfl T.own_points.gl T.own_points.fn.kp T.own_points.bd .nil pass0 (pa_cons (pv 0) (pa_cons (pv 5) (pa_cons (pv 2) pa_nil)))) pa_nil)))))))
  (pss_one (ps_ret (pv 4))))),?_⟩
 refine ⟨_,rfl,_,rfl,_,rfl,a,c,t,r,i,n,rfl,S,hn,fun H1 s1=>?_⟩
 refine ⟨Nat.zero_le _,fun l hl=>?_⟩
 have hl0:H l=none:=s1.free hl
 have s2:Same H (upd H1 l (.lst [])):=s1.put hl0
 have S2:=S.keep (Kp.of s2)
 obtain ⟨dS,hS⟩:=S2.obj
 refine ⟨_,rfl,a.o,_,dS,_,_,rfl,hS,T.Series.cl,T.a_Series_races,ser_races _ _ _ _ _,_,rfl,r,rfl,a.rl,_,rfl,SqL.of S2.hRaces.1,fun p hp=>?_⟩
 rw [cut_to]
 have hp0:H p=none:=s2.free hp
 have hlp:l≠p:=ne_of_none (H:=upd H1 l (.lst [])) upd_same hp
 refine ⟨p,rfl,⟨_,SqL.of upd_same⟩,for_list (K:=K) (a:=p) (xs:=(a.rs.map fun x=>V.ref x.o).take r) (fun k σ H'=>∃ v5:Option V,σ=[some (.ref a.o),some (natV r),some (natV i),some (natV (Rc.avgN (boats c).length ((races c).take r) n)),some (.ref l),v5] ∧
   Same H H'∧H' p=some (.lst ((a.rs.map fun x=>V.ref x.o).take r))∧H' l=some (.lst (natsV ((Rc.ptsN (boats c).length ((races c).take r) n).take k))))
  ⟨none,rfl,s2.put hp0,upd_same,by rw [upd_ne hlp]; exact upd_same⟩ (fun k σ H' _ ⟨_,_,_,h,_⟩=>SqL.of h) ?_ ?_⟩
 ·rintro k y σ H' hy ⟨v5,rfl,s3,h1,h2⟩
  have S':=S.keep (Kp.of s3)
  obtain ⟨x,ls,rfl,hls,hmem,R⟩:=S'.race hy
  have hk:(Rc.ptsN (boats c).length ((races c).take r) n)[k]?=some (if Rc.isAvg (ownOf ls n)=true then Rc.avgN (boats c).length ((races c).take r) n else Rc.own1 (boats c).length n ls):=by
   unfold Rc.ptsN
   rw [List.getElem?_map,hls]
   rfl
  have hsz:(natsV ((Rc.ptsN (boats c).length ((races c).take r) n).take k)).length < sizeLine:=by
   rw [natsV_len,List.length_take,Rc.ptsN_len]
   exact line10' (by omega)
  ((try dsimp only [tSeq,tNext,gName]); apply rd_if; exact (evt_test (ev_eq (x:=.str (strOf (wordOf (ownOf ls n)))) (ev_call (eva_cons (ev_var rfl) (eva_cons (ev_var rfl) eva_nil)) fun Q q=>⟨x,a.okn,boats c,c.length,ls,i,n,rfl,R,hn,q⟩) ev_c)))
  ·intro h
   rw [word_avg] at h
   refine ⟨_,rfl,.inl ⟨rfl,_,SqL.of h2⟩,_,rfl,l,_,_,rfl,rfl,h2,hsz,?_⟩
   refine ⟨_,rfl,s3.put hl0,by rw [upd_ne (Ne.symm hlp)]; exact h1,?_⟩
   rw [upd_same,natsV_snoc,take_snoc hk,if_pos h]
  ·intro h
   rw [word_avg] at h
   refine ⟨_,rfl,.inl ⟨rfl,_,SqL.of h2⟩,_,rfl,_,rfl,_,rfl,a,c,t,x,a.okn,c.length,ls,i,n,rfl,S',R,hmem,hn,l,_,_,rfl,rfl,h2,hsz,?_⟩
   refine ⟨_,rfl,s3.put hl0,by rw [upd_ne (Ne.symm hlp)]; exact h1,?_⟩
   rw [upd_same,natsV_snoc,take_snoc hk,h,if_neg Bool.false_ne_true]
 ·rintro σ H' ⟨v5,rfl,s3,h1,h2⟩
  have ekl:((a.rs.map fun x=>V.ref x.o).take r).length=((races c).take r).length:=by rw [List.length_take,List.length_take,List.length_map,S.hRaces.2.1]
  rw [ekl,List.take_of_length_le (by rw [Rc.ptsN_len]; exact Nat.le_refl _)] at h2
  exact ⟨_,rfl,q H' l s3 hl0 h2⟩
end
end Rv
end
section
namespace Rv
open PySem PySem.Spec PyProof.Rows L2
open RgScore (Bytes Name Line Series boats outs races ownOf penOf ascii howMany)
def lq1:Str:=(("left_out":Str)++".<locals>.")++"<lambda>"
def lq2:Str:=(("boats_in_order":Str)++".<locals>.")++"<lambda>"
def lp1:Pos:=⟨232,42,232,62⟩
def lp2:Pos:=⟨256,42,256,67⟩
section
variable {P:Program} {w:World} {K:PySem.W.Frag} {mg:Str→Option Value} {base:Heap}
structure Tabs (T:Tx P w K mg) (H:Hp):Prop where
 one:TabOk H T.t1 lp1 lq1
 two:TabOk H T.t2 lp2 lq2
structure Sm (T:Tx P w K mg) (H H':Hp):Prop where
 kp:Kp H H'
 tt:∀ b ps,H b=some (.tbl ps)→∃ ps',H' b=some (.tbl ps')
 tb:Tabs T H'
theorem TabOk.same {H H':Hp} {p:Addr} {pos:Pos} {q:Str} (h:TabOk H p pos q) (s:Same H H'):TabOk H' p pos q:=by
 obtain ⟨ps,h1,h2,h3⟩:=h
 refine ⟨ps,s _ _ h1,h2,?_⟩
 rcases h3 with h3 | ⟨c,h3,h4⟩
 ·exact .inl h3
 ·exact .inr ⟨c,h3,s _ _ h4⟩
variable {T:Tx P w K mg} {H H1 H2:Hp}
theorem Tabs.same (B:Tabs T H) (s:Same H H1):Tabs T H1:=⟨TabOk.same B.one s,TabOk.same B.two s⟩
theorem Sm.of (B:Tabs T H) (s:Same H H1):Sm T H H1:=⟨Kp.of s,fun b ps e=>⟨ps,s _ _ e⟩,B.same s⟩
theorem Sm.refl (B:Tabs T H):Sm T H H:=Sm.of B (Same.refl H)
theorem Sm.trans (a:Sm T H H1) (b:Sm T H1 H2):Sm T H H2:=⟨a.kp.trans b.kp,fun x ps e=>by
 obtain ⟨ps',e'⟩:=a.tt x ps e
 exact b.tt x ps' e',b.tb⟩
theorem Sm.more (a:Sm T H H1) (s:Same H1 H2):Sm T H H2:=a.trans (Sm.of a.tb s)
theorem Sm.free (a:Sm T H H1) {p:Addr} (h:H1 p=none):H p=none:=by
 cases e:H p with
 | none=>rfl
 | some o =>
  cases o with
  | tbl ps =>
   obtain ⟨ps',e'⟩:=a.tt p ps e
   rw [h] at e'; cases e'
  | _=>rw [a.kp _ _ e rfl] at h; cases h
theorem TabOk.put {p q:Addr} {pos:Pos} {s:Str} {o:HO} (h:TabOk H p pos s) (hk:H q=none∨∃ xs,H q=some (.lst xs)):TabOk (upd H q o) p pos s:=by
 obtain ⟨ps,h1,h2,h3⟩:=h
 have n1:p≠q:=fun e=>by
  subst e
  rcases hk with hk | ⟨xs,hk⟩ <;> (rw [hk] at h1; cases h1)
 refine ⟨ps,by rw [upd_ne n1]; exact h1,h2,?_⟩
 rcases h3 with h3 | ⟨c,h3,h4⟩
 ·exact .inl h3
 ·refine .inr ⟨c,h3,?_⟩
  have n2:c≠q:=fun e=>by
   subst e
   rcases hk with hk | ⟨xs,hk⟩ <;> (rw [hk] at h4; cases h4)
  rw [upd_ne n2]
  exact h4
theorem Sm.put (a:Sm T H H1) {p:Addr} {o:HO} (h:H p=none) (hk:H1 p=none∨∃ xs,H1 p=some (.lst xs)):Sm T H (upd H1 p o):=by
 refine ⟨fun b u e t=>?_,fun b ps e=>?_,⟨TabOk.put a.tb.one hk,TabOk.put a.tb.two hk⟩⟩
 ·rw [upd_ne (ne_of_none e h)]; exact a.kp b u e t
 ·rw [upd_ne (ne_of_none e h)]; exact a.tt b ps e
theorem Sm.new (a:Sm T H H1) {p:Addr} {o:HO} (h:H1 p=none):Sm T H (upd H1 p o):=a.put (a.free h) (.inl h)
theorem TabOk.lam {p p':Addr} {pos pos':Pos} {q q':Str} (h:TabOk H p pos q) (h':TabOk H p' pos' q') (ne:p≠p') (L:Lam H H1 p pos q):TabOk H1 p' pos' q':=by
 obtain ⟨ps,h1,_⟩:=h
 obtain ⟨ps',h2,h3,h4⟩:=h'
 refine ⟨ps',L.same _ _ h2 (Ne.symm ne),h3,?_⟩
 rcases h4 with h4 | ⟨c,h4,h5⟩
 ·exact .inl h4
 ·refine .inr ⟨c,h4,L.same _ _ h5 fun e=>?_⟩
  rw [e,h1] at h5
  cases h5
theorem lam_keep {p:Addr} {pos:Pos} {q:Str} (h:TabOk H p pos q) (L:Lam H H1 p pos q):Kp H H1∧∀ b ps,H b=some (.tbl ps)→∃ ps',H1 b=some (.tbl ps'):=by
 obtain ⟨ps,h1,_⟩:=h
 refine ⟨fun b o e t=>L.same b o e fun z=>?_,fun b ps' e=>?_⟩
 ·rw [z,h1] at e
  cases e
  cases t
 ·by_cases z:b=p
  ·obtain ⟨ps2,h2,_⟩:=L.tab
   exact ⟨ps2,by rw [z]; exact h2⟩
  ·exact ⟨ps',L.same b _ e z⟩
theorem Sm.lam1 (B:Tabs T H) (L:Lam H H1 T.t1 lp1 lq1):Sm T H H1:=⟨(lam_keep B.one L).1,(lam_keep B.one L).2,⟨L.tab,TabOk.lam B.one B.two T.t12 L⟩⟩
theorem Sm.lam2 (B:Tabs T H) (L:Lam H H1 T.t2 lp2 lq2):Sm T H H1:=⟨(lam_keep B.two L).1,(lam_keep B.two L).2,⟨TabOk.lam B.two B.one (Ne.symm T.t12) L,L.tab⟩⟩
theorem CodeAt.ok {x:Str} {st:Stmt} {f:Addr} {fd:FuncData} {c:Addr} {N ps:List Str} {k:Nat} {sp:Sp} (F:CodeAt K x st f fd c) (S:FnScope N ps (defScope st)) (len:∀ vs H Q E,sp vs H Q E→vs.length=ps.length)
  (hbody:∀ (A:Around) (outer:List Env) (s:Shared) (H:Hp) (vs:List V) (Q:VK) (E:XK),Room k (A.deeper (envOfC x (defScope st) s.heap.objs.size f (.ref c)))→sp vs H Q E →
   ∃ t,PSs (cxOf CX0 P w K mg base N x (defScope st) f (.ref c) A outer s H E).nox (defBody st) t∧t { nx:=fun _ H'=>Q .non H',rt:=Q } (start N vs) H):FnOk P w K mg base CX0 (k + 1) f fd ps sp:=by
 obtain ⟨oc,od,kV,doc,pm,an,ct,osl,rfl,lk,hcd⟩:=F
 refine fn_of lk hcd S len fun A outer s H vs Q E hr hsp=>?_
 obtain ⟨t,h,q⟩:=hbody A outer s H vs Q E hr hsp
 exact ⟨t,h.nox,q⟩
def spOutCount (T:Tx P w K mg):Sp:=fun vs H Q _=>∃ (a:SerAd) (c:Series) (t:Bytes) (r:Nat),vs=[.ref a.o,natV r]∧SerAt T.Race.C T.Series.C H a c t∧Q (natV (howMany c r)) H
theorem scOutCount:FnScope ["series","r","count","out"] ["series","r"] (defScope s_out_count):=⟨rfl,rfl,rfl,by decide +kernel,rfl,by decide +kernel,by decide +kernel⟩
def outF (r:Nat) (a:Nat) (o:Nat×Nat):Nat:=if o.1≤r then o.2 else a
theorem ok_out_count (T:Tx P w K mg):FnOk P w K mg base CX0 1 T.out_count.f T.out_count.fd ["series","r"] (spOutCount T):=by
 have nd:=scOutCount.nd
 refine T.out_count.fn.ok scOutCount (fun vs H Q E h=>?_) (fun cdv A outer s H vs Q E hr h=>?_)
 ·obtain ⟨a,c,t,r,rfl,_⟩:=h
  rfl
 obtain ⟨a,c,t,r,rfl,S,q⟩:=h
 obtain ⟨dS,hS⟩:=S.obj
 refine ⟨_,pss_cons (ps_set (i:=2) nd rfl (Or.inl rfl) pe_int)
  (pss_cons (ps_for PassesOwn.never rfl (pi_list (pe_fld (pv 0) rfl)) (pg_name (i:=3) nd rfl (Or.inl rfl))
   (pss_one (ps_if (pt_cmpR op_le (pe_ix ix_tup (pv 3) pe_int (fun _ _=>rfl)) (pv 1) (nomark _))
    (pss_one (ps_set (i:=2) nd rfl (Or.inl rfl) (pe_ix ix_tup (pv 3) pe_int (fun _ _=>rfl)))) pss_nil)))
  (pss_one (ps_ret (pv 2)))),?_⟩
 refine ⟨_,rfl,a.o,_,dS,_,_,rfl,hS,T.Series.cl,T.a_Series_outs,ser_outs _ _ _ _ _,a.od,rfl,⟨_,SqL.of S.hOuts.1⟩,for_list (K:=K) (a:=a.od) (xs:=a.os.map V.ref) (fun k σ H'=>H'=H∧∃ v3:Option V,σ=[some (.ref a.o),some (natV r),some (natV (((outs c).take k).foldl (outF r) 0)),v3])
  ⟨rfl,none,rfl⟩ (fun k σ H' _ ⟨e,_⟩=>by rw [e]; exact SqL.of S.hOuts.1) ?_ ?_⟩
 ·rintro k y σ H' hy ⟨rfl,v3,rfl⟩
  obtain ⟨o,ho,rfl⟩:∃ o,a.os[k]?=some o∧y=.ref o:=by
   rw [List.getElem?_map] at hy
   cases e:a.os[k]? with
   | none=>rw [e] at hy; cases hy
   | some o=>rw [e] at hy; exact ⟨o,rfl,(Option.some.inj hy).symm⟩
  have hlt:k < (outs c).length:=by
   have:=(List.getElem?_eq_some_iff.mp ho).1
   rw [S.hOuts.2.1] at this
   exact this
  have hp:(outs c)[k]?=some (outs c)[k]:=List.getElem?_eq_getElem hlt
  have ht:=S.hOuts.2.2 k o _ ho hp
  have en:((outs c).take (k + 1)).foldl (outF r) 0=outF r (((outs c).take k).foldl (outF r) 0) (outs c)[k]:=by rw [take_snoc hp,List.foldl_append]; rfl
  ((try dsimp only [tSeq,tNext,gName]); apply rd_if; exact (evt_test (ev_i0 (i:=((outs c)[k].1:Nat)) (j:=(r:Nat)) (ev_ixT (ev_var rfl) ev_c (SqT.of ht) (at_ix (j:=0) rfl rfl)) (ev_var rfl))))
  ·intro h
   have hle:(outs c)[k].1≤r:=by
    have:=of_decide_eq_true h
    omega
   refine ev_ixT (ev_var rfl) ev_c (SqT.of ht) (at_ix (j:=1) rfl rfl) _ ?_
   refine ⟨rfl,some (.ref o),?_⟩
   rw [en]
   unfold outF
   rw [if_pos hle]
   rfl
  ·intro h
   have hle:¬ (outs c)[k].1≤r:=fun z=>by
    have:=of_decide_eq_false h
    omega
   refine ⟨rfl,some (.ref o),?_⟩
   rw [en]
   unfold outF
   rw [if_neg hle]
   rfl
 ·rintro σ H' ⟨rfl,v3,rfl⟩
  rw [List.length_map,S.hOuts.2.1,List.take_length]
  refine ⟨_,rfl,?_⟩
  rw [Rc.howMany_fold] at q
  exact q
end
end Rv
end
section
namespace Rv
open PySem PySem.Spec PyProof.Rows L2
open RgScore (Bytes Name Line Series boats outs races ownOf penOf ascii howMany)
section
variable {P:Program} {w:World} {K:PySem.W.Frag} {mg:Str→Option Value} {base:Heap}
def spLeft (T:Tx P w K mg):Sp:=fun vs H Q _=>∃ (a:SerAd) (c:Series) (t:Bytes) (r i:Nat) (n:Name) (pp:Addr),vs=[.ref a.o,natV i,.ref pp]∧SerAt T.Race.C T.Series.C H a c t∧(boats c)[i]?=some n∧r≤(races c).length ∧
 H pp=some (.lst (natsV (Rc.ptsN (boats c).length ((races c).take r) n)))∧Tabs T H ∧
 ∀ (H':Hp) (p:Addr),Sm T H H'→H p=none→H' p=some (.lst (natsV (Rc.risingN (Rc.outN (boats c).length (howMany c r) ((races c).take r) n))))→Q (.ref p) H'
theorem scLeft:FnScope ["series","boat","points","may_be_left","k","worst_first"] ["series","boat","points"] (defScope s_left_out):=⟨rfl,rfl,rfl,by decide +kernel,rfl,by decide +kernel,by decide +kernel⟩
theorem natsV_get {l:List Nat} {k:Nat} (h:k < l.length):(natsV l)[k]?=some (natV (l.getD k 0)):=by
 unfold natsV
 rw [List.getElem?_map,List.getElem?_eq_getElem h,List.getD_eq_getElem?_getD,List.getElem?_eq_getElem h]
 rfl
theorem may_snoc {rs:List (List Line)} {b:Name} {k:Nat}:((List.range (k + 1)).filter fun k=>!Rc.isDis ((rs.map fun ls=>ownOf ls b).getD k none)) =
  ((List.range k).filter fun k=>!Rc.isDis ((rs.map fun ls=>ownOf ls b).getD k none))++(if Rc.isDis ((rs.map fun ls=>ownOf ls b).getD k none)=true then [] else [k]):=by
 rw [List.range_succ,List.filter_append]
 congr 1
 rw [List.filter_cons,List.filter_nil]
 cases h:Rc.isDis ((rs.map fun ls=>ownOf ls b).getD k none) <;> rfl
theorem nats_perm {l:List Nat} {ns:List Int} (h:ns.Perm (natsI l)) (hs:ns.Pairwise (·≤·)):∃ ms:List Nat,ns=natsI ms∧ms.Perm l∧ms.Pairwise (·≤·):=by
 have hall:∀ z∈ns,0≤z:=fun z hz=>by
  obtain ⟨m,_,rfl⟩:=List.mem_map.mp (h.mem_iff.mp hz)
  exact Int.natCast_nonneg m
 have e:ns=natsI (ns.map Int.toNat):=by
  unfold natsI
  rw [List.map_map]
  conv=>lhs; rw [←List.map_id ns]
  refine List.map_congr_left fun z hz=>?_
  have:=hall z hz
  show z=((z.toNat:Nat):Int)
  omega
 refine ⟨ns.map Int.toNat,e,?_,?_⟩
 ·have:=h.map Int.toNat
  have e2:(natsI l).map Int.toNat=l:=by
   unfold natsI
   rw [List.map_map]
   conv=>rhs; rw [←List.map_id l]
   exact List.map_congr_left fun z _=>Int.toNat_natCast z
  rw [e2] at this
  exact this
 ·rw [List.pairwise_map]
  exact hs.imp fun {a b} hab=>by omega
theorem ok_left (T:Tx P w K mg) (B:BMain mg base):FnOk P w K mg base CX0 5 T.left_out.f T.left_out.fd ["series","boat","points"] (spLeft T):=by
 have nd:=scLeft.nd
 have G1:=ok_word (base:=base) T
 have G2:=ok_out_count (base:=base) T
 refine CodeAt.ok T.code1 scLeft (fun vs H Q E h=>?_) (fun A outer s H vs Q E hr h=>?_)
 ·obtain ⟨a,c,t,r,i,n,pp,rfl,_⟩:=h
  rfl
 obtain ⟨a,c,t,r,i,n,pp,rfl,S,hn,hr1,hpp,B0,q⟩:=h
 have hu:=hu_of hr
 have hlen:=S.good.facts.races_len r
 have hrl:((races c).take r).length=r:=by rw [List.length_take]; omega
 have hpl:(Rc.ptsN (boats c).length ((races c).take r) n).length=r:=by rw [Rc.ptsN_len,hrl]
 refine ⟨_,pss_cons (ps_setLc (i:=3) (tt:=tTest (tOp rNe (tCall (spWord T.Race.C) [] E0 (tCons (tOp (rIxL K) (tFld K (tVar 0) "races") (tVar 4)) (tCons (tVar 1) tNil))) (tC (.str "dis")))) rfl nd rfl rfl (sw_true rfl rfl rfl (by decide +kernel)) (pi_range1 rfl T.n_range (pa_cons (pe_callB call_len_seq (by rfl) T.n_len PySem.boot_len (pa_cons (pv 2) pa_nil)) pa_nil)) (own:=[("k",4)]) (blkOk_by (by rfl)) (fun _ _ _ _ _=>pg_name (i:=4) nd rfl (Or.inl rfl)) (fun _ _ _ _ _=>(pts_one (pt_cmpR op_ne (pe_call G1 (hr.mono (by decide)) rfl T.result_word.gl T.result_word.fn.kp T.result_word.bd .nil pass0 (pa_cons (pe_ix ix_list (pe_fld (pv 0) rfl) (pv 4) (fun _ _=>rfl)) (pa_cons (pv 1) pa_nil))) pe_str (nomark _)))) (fun _ _ _ _ _=>(pv 4)))
  (pss_cons (ps_set (i:=5) nd rfl (Or.inl rfl) (pe_sortL (tb:=tUn (rU fun i=>.int (-i)) (tOp (rIxL K) (tVar 1) (tVar 0))) (x:="k") (fv:="points") (j:=2) (hr.mono (by decide)) rfl T.n_sorted (pv 3) ⟨rfl,rfl,rfl,rfl,rfl,by decide,by decide +kernel,by decide +kernel⟩ rfl T.hd1 B (fun _=>rfl) rfl (fun _ _ _ _ _ _=>rfl) rfl rfl (fun _ _ _ _ _ _=>pe_un un_neg (pe_ix ix_list (pv 1) (pv 0) (fun _ _=>rfl)))))
  (pss_one (ps_ret (pe_callB cr_sorted (by rfl) T.n_sorted PyProof.Rows.boot_sorted (pa_cons (pe_slice sl_list (pv 5) po_none (po_some (pe_call G2 (hr.mono (by decide)) rfl T.out_count.gl T.out_count.fn.kp T.out_count.bd .nil pass0 (pa_cons (pv 0) (pa_cons (pe_callB call_len_seq (by rfl) T.n_len PySem.boot_len (pa_cons (pv 2) pa_nil)) pa_nil))))) pa_nil))))),?_⟩
 refine ⟨_,rfl,pp,_,rfl,.inl (SqL.of hpp),r,by rw [natsV_len,hpl],by omega,by omega,fun D hD=>?_⟩
 rw [Int.toNat_natCast]
 have s0:Same H (upd H D (.lst [])):=Same.new hD
 refine lc_range (lo:=0) (n:=r) (fun k H'=>Same H H'∧H' D=some (.lst (natsV ((List.range k).filter fun k=>!Rc.isDis ((((races c).take r).map fun ls=>ownOf ls n).getD k none))))) ⟨s0,upd_same⟩ ?_ ?_
 ·rintro k H' hk ⟨s1,h1⟩
  have S':=S.keep (Kp.of s1)
  have hk2:k < (races c).length:=by omega
  have hk3:(races c)[k]?=some (races c)[k]:=List.getElem?_eq_getElem hk2
  have hk4:a.rs[k]?=some (a.rs[k]'(by rw [S.hRaces.2.1]; exact hk2)):=List.getElem?_eq_getElem _
  have R:=S'.hRaces.2.2 k _ _ hk4 hk3
  have eo:(((races c).take r).map fun ls=>ownOf ls n).getD k none=ownOf (races c)[k] n:=by
   rw [List.getD_eq_getElem?_getD,List.getElem?_map,List.getElem?_take,if_pos hk,hk3]
   rfl
  refine ⟨rfl,?_⟩
  refine (evt_test (ev_ne (x:=.str (strOf (wordOf (ownOf (races c)[k] n)))) (ev_call (eva_cons (v:=.ref (a.rs[k]'(by rw [S.hRaces.2.1]; exact hk2)).o) (ev_ixL (i:=0 + (k:Int)) (S'.evRaces T (ev_var rfl)) (ev_var rfl) (SqL.of S'.hRaces.1) (at_ix (j:=k) (by omega) (by rw [List.getElem?_map,hk4]; rfl))) (eva_cons (ev_var rfl) eva_nil)) fun Q q=>⟨_,a.okn,boats c,c.length,(races c)[k],i,n,rfl,R,hn,q⟩) ev_c):EvT _ _ _ _) _ ?_
  rw [word_dis,←eo]
  cases hv:Rc.isDis ((((races c).take r).map fun ls=>ownOf ls n).getD k none) with
  | true =>
   refine iteF ⟨s1,?_⟩
   rw [may_snoc,hv,if_pos rfl,List.append_nil]
   exact h1
  | false =>
   refine iteT ⟨_,rfl,_,h1,?_,s1.put hD,?_⟩
   ·rw [natsV_len]
    have:=List.length_filter_le (fun k=>!Rc.isDis ((((races c).take r).map fun ls=>ownOf ls n).getD k none)) (List.range k)
    rw [List.length_range] at this
    exact line10' (by omega)
   ·rw [upd_same,may_snoc,hv,if_neg Bool.false_ne_true,←natsV_snoc,Int.zero_add]
    rfl
 ·rintro H1 ⟨s1,h1⟩
  have em:((List.range r).filter fun k=>!Rc.isDis ((((races c).take r).map fun ls=>ownOf ls n).getD k none))=Rc.mayN ((races c).take r) n:=by unfold Rc.mayN; rw [hrl]
  rw [em] at h1
  have hml:(Rc.mayN ((races c).take r) n).length≤r:=by
   rw [←em]
   exact Nat.le_trans (List.length_filter_le _ _) (by rw [List.length_range]; exact Nat.le_refl _)
  have hmr:∀ k∈Rc.mayN ((races c).take r) n,k < r:=fun k hk=>by
   rw [←em] at hk
   exact List.mem_range.mp (List.mem_filter.mp hk).1
  have B1:=B0.same s1
  refine ⟨_,rfl,D,_,.ref pp,rfl,h1,by omega,B1.one,rfl,fun H2 L=>?_⟩
  have m2:Sm T H H2:=(Sm.of B0 s1).trans (Sm.lam1 B1 L)
  have hpp2:H2 pp=some (.lst (natsV (Rc.ptsN (boats c).length ((races c).take r) n))):=m2.kp _ _ hpp rfl
  refine ⟨fun k=>-(((Rc.ptsN (boats c).length ((races c).take r) n).getD k 0:Nat):Int),fun k hk=>?_,fun q1 hq1=>?_⟩
  ·exact ev_un (i:=((Rc.ptsN (boats c).length ((races c).take r) n).getD k 0:Nat)) (ev_ixL (ev_var rfl) (ev_var rfl) (SqL.of hpp2) (at_ix (j:=k) rfl (natsV_get (by rw [hpl]; exact hmr k hk)))) _ ⟨rfl,rfl⟩
  ·rw [←Rc.worstN_sort]
   have m3:Sm T H (upd H2 q1 (.lst (natsV (Rc.worstN (Rc.ptsN (boats c).length ((races c).take r) n) (Rc.mayN ((races c).take r) n))))):=m2.new hq1
   have hpq:pp≠q1:=ne_of_none hpp2 hq1
   have hpp3:(upd H2 q1 (.lst (natsV (Rc.worstN (Rc.ptsN (boats c).length ((races c).take r) n) (Rc.mayN ((races c).take r) n))))) pp=some (.lst (natsV (Rc.ptsN (boats c).length ((races c).take r) n))):=m3.kp _ _ hpp rfl
   have S3:=S.keep m3.kp
   refine ⟨_,rfl,_,rfl,_,rfl,pp,_,rfl,.inl (SqL.of hpp3),a,c,t,r,by rw [natsV_len,hpl]; rfl,S3,_,rfl,q1,_,rfl,SqL.of upd_same,fun q2 hq2=>?_⟩
   rw [cut_to]
   have eo:(natsV (Rc.worstN (Rc.ptsN (boats c).length ((races c).take r) n) (Rc.mayN ((races c).take r) n))).take (howMany c r)=natsV (Rc.outN (boats c).length (howMany c r) ((races c).take r) n):=by
    unfold natsV Rc.outN
    rw [List.map_take]
   rw [eo]
   have m4:=m3.new (o:=.lst (natsV (Rc.outN (boats c).length (howMany c r) ((races c).take r) n))) hq2
   have hol:(Rc.outN (boats c).length (howMany c r) ((races c).take r) n).length≤r:=by
    unfold Rc.outN
    rw [List.length_take,Rc.worstN_sort,(Rc.sortK_perm _).length_eq]
    omega
   refine ⟨q2,natsI (Rc.outN (boats c).length (howMany c r) ((races c).take r) n),rfl,by rw [←natsV_eq]; exact SqL.of upd_same,by unfold natsI; rw [List.length_map]; omega,fun ns' p hperm hsort hp=>?_⟩
   obtain ⟨ms,rfl,hmp,hms⟩:∃ ms:List Nat,ns'=natsI ms∧ms.Perm (Rc.outN (boats c).length (howMany c r) ((races c).take r) n)∧ms.Pairwise (·≤·):=nats_perm hperm hsort
   rw [←natsV_eq,Rc.rising_only hmp hms]
   exact q _ p (m4.new hp) (m4.free hp) upd_same
end
end Rv
end
section
namespace Rv
open PySem PySem.Spec PyProof.Rows L2
open RgScore (Bytes Name Line Series boats outs races ownOf penOf ascii howMany)
section
variable {P:Program} {w:World} {K:PySem.W.Frag} {mg:Str→Option Value} {base:Heap}
theorem inV_nats (k:Nat):∀ l:List Nat,inV (natV k) (natsV l)=l.contains k
 | []=>rfl
 | x::l=>by
  show (eqV (natV x) (natV k) || inV (natV k) (natsV l))=_
  rw [inV_nats k l,List.contains_cons]
  congr 1
  show (((x:Nat):Int)==((k:Nat):Int))=(k==x)
  rw [Bool.eq_iff_iff,beq_iff_eq,beq_iff_eq]
  omega
theorem flat_nats:∀ l:List Nat,(natsV l).all flatV=true
 | []=>rfl
 | x::l=>by
  show (flatV (natV x) && (natsV l).all flatV)=true
  rw [flat_nats l]
  rfl
theorem contains_rising (k:Nat) (l:List Nat):(Rc.risingN l).contains k=l.contains k:=by
 rw [Bool.eq_iff_iff,List.contains_iff_mem,List.contains_iff_mem]
 exact (Rc.risingN_perm l).mem_iff
def keptTo (n many:Nat) (rs:List (List Line)) (b:Name) (k:Nat):List Nat:=((List.range k).filter fun k=>!(Rc.outN n many rs b).contains k).map fun k=>(Rc.ptsN n rs b).getD k 0
theorem kept_snoc (n many:Nat) (rs:List (List Line)) (b:Name) (k:Nat):keptTo n many rs b (k + 1)=keptTo n many rs b k++(if (Rc.outN n many rs b).contains k=true then [] else [(Rc.ptsN n rs b).getD k 0]):=by
 unfold keptTo
 rw [List.range_succ,List.filter_append,List.map_append]
 congr 1
 rw [List.filter_cons,List.filter_nil]
 cases h:(Rc.outN n many rs b).contains k <;> rfl
theorem kept_len (n many:Nat) (rs:List (List Line)) (b:Name) (k:Nat):(keptTo n many rs b k).length≤k:=by
 unfold keptTo
 rw [List.length_map]
 exact Nat.le_trans (List.length_filter_le _ _) (by rw [List.length_range]; exact Nat.le_refl _)
def spKept (T:Tx P w K mg):Sp:=fun vs H Q _=>∃ (a:SerAd) (c:Series) (t:Bytes) (r i:Nat) (n:Name) (pp:Addr),vs=[.ref a.o,natV i,.ref pp]∧SerAt T.Race.C T.Series.C H a c t∧(boats c)[i]?=some n∧r≤(races c).length ∧
 H pp=some (.lst (natsV (Rc.ptsN (boats c).length ((races c).take r) n)))∧Tabs T H ∧
 ∀ (H':Hp) (p:Addr),Sm T H H'→H p=none→H' p=some (.lst (natsV (Rc.keptN (boats c).length (howMany c r) ((races c).take r) n)))→Q (.ref p) H'
theorem scKept:FnScope ["series","boat","points","out","k"] ["series","boat","points"] (defScope s_kept_points):=⟨rfl,rfl,rfl,by decide +kernel,rfl,by decide +kernel,by decide +kernel⟩
theorem ok_kept (T:Tx P w K mg) (B:BMain mg base):FnOk P w K mg base CX0 6 T.kept_points.f T.kept_points.fd ["series","boat","points"] (spKept T):=by
 have nd:=scKept.nd
 have G1:=ok_left T B
 refine T.kept_points.fn.ok scKept (fun vs H Q E h=>?_) (fun cdv A outer s H vs Q E hr h=>?_)
 ·obtain ⟨a,c,t,r,i,n,pp,rfl,_⟩:=h
  rfl
 obtain ⟨a,c,t,r,i,n,pp,rfl,S,hn,hr1,hpp,B0,q⟩:=h
 have hlen:=S.good.facts.races_len r
 have hrl:((races c).take r).length=r:=by rw [List.length_take]; omega
 have hpl:(Rc.ptsN (boats c).length ((races c).take r) n).length=r:=by rw [Rc.ptsN_len,hrl]
 refine ⟨_,pss_cons (ps_set (i:=3) nd rfl (Or.inr rfl) (pe_call G1 (hr.mono (by decide)) rfl T.left_out.gl T.left_out.fn.kp T.left_out.bd .nil pass0 (pa_cons (pv 0) (pa_cons (pv 1) (pa_cons (pv 2) pa_nil)))))
  (pss_one (ps_ret (pe_lc (tt:=tTest (tOp (rIn K true) (tVar 4) (tVar 3))) (te:=tOp (rIxL K) (tVar 2) (tVar 4)) rfl nd (pi_range1 rfl T.n_range (pa_cons (pe_callB call_len_seq (by rfl) T.n_len PySem.boot_len (pa_cons (pv 2) pa_nil)) pa_nil)) (own:=[("k",4)]) (blkOk_by (by rfl)) (fun _ _ _ _ _=>pg_name (i:=4) nd rfl (Or.inl rfl)) (fun _ _ _ _ _=>(pts_one (pt_cmpR op_notIn_seq (pv 4) (pv 3) (by with_unfolding_all rfl)))) (fun _ _ _ _ _=>(pe_ix ix_list (pv 2) (pv 4) (fun _ _=>rfl)))))),?_⟩
 refine ⟨_,rfl,_,rfl,_,rfl,a,c,t,r,i,n,pp,rfl,S,hn,hr1,hpp,B0,fun H1 po m1 hpo h1=>?_⟩
 have hpp1:H1 pp=some (.lst (natsV (Rc.ptsN (boats c).length ((races c).take r) n))):=m1.kp _ _ hpp rfl
 refine ⟨_,rfl,pp,_,rfl,.inl (SqL.of hpp1),r,by rw [natsV_len,hpl],by omega,by omega,fun D hD=>?_⟩
 rw [Int.toNat_natCast]
 have hD0:H D=none:=m1.free hD
 have m2:Sm T H (upd H1 D (.lst [])):=m1.new hD
 have n1:po≠D:=ne_of_none h1 hD
 refine lc_range (lo:=0) (n:=r) (fun k H'=>Same H1 H'∧H' D=some (.lst (natsV (keptTo (boats c).length (howMany c r) ((races c).take r) n k)))) ⟨Same.new hD,upd_same⟩ ?_ ?_
 ·rintro k H' hk ⟨s1,h2⟩
  have hpo':=s1 _ _ h1
  have hpp':=s1 _ _ hpp1
  refine ⟨rfl,?_⟩
  refine ⟨_,rfl,_,rfl,po,_,rfl,.inl (SqL.of hpo'),rfl,flat_nats _,_,rfl,?_⟩
  rw [Int.zero_add]
  show if (!inV (natV k) (natsV (Rc.risingN (Rc.outN (boats c).length (howMany c r) ((races c).take r) n))))=true then _ else _
  rw [inV_nats,contains_rising]
  have en:=kept_snoc (boats c).length (howMany c r) ((races c).take r) n k
  cases hv:(Rc.outN (boats c).length (howMany c r) ((races c).take r) n).contains k with
  | true =>
   refine iteF ⟨s1,?_⟩
   rw [en,hv,if_pos rfl,List.append_nil]
   exact h2
  | false =>
   refine iteT ⟨_,rfl,_,rfl,pp,_,_,_,rfl,rfl,SqL.of hpp',at_ix (j:=k) rfl (natsV_get (by rw [hpl]; exact hk)),_,h2,?_,s1.put hD,?_⟩
   ·rw [natsV_len]
    exact line10' (by have:=kept_len (boats c).length (howMany c r) ((races c).take r) n k; omega)
   ·rw [upd_same,en,hv,if_neg Bool.false_ne_true,natsV_snoc]
 ·rintro H' ⟨s1,h2⟩
  have ek:keptTo (boats c).length (howMany c r) ((races c).take r) n r=Rc.keptN (boats c).length (howMany c r) ((races c).take r) n:=by unfold keptTo Rc.keptN; rw [hrl]
  rw [ek] at h2
  exact q H' D (m1.more s1) hD0 h2
def scoreC (c:Series) (r:Nat) (n:Name):Rc.Score:=Rc.scoreN (boats c).length (howMany c r) ((races c).take r) n
def ScoreNew (H0 H:Hp) (p:Addr) (s:Rc.Score):Prop:=∃ x y,H0 x=none∧H0 y=none∧H p=some (.tup [.int (s.total:Int),.ref x,.ref y])∧H x=some (.lst (natsV s.best))∧H y=some (.lst (natsV s.back))
theorem ScoreNew.at_ {H0 H:Hp} {p:Addr} {s:Rc.Score} (h:ScoreNew H0 H p s):ScoreAt H p s:=let ⟨x,y,_,_,h⟩:=h; ⟨x,y,h⟩
def spScore (T:Tx P w K mg):Sp:=fun vs H Q _=>∃ (a:SerAd) (c:Series) (t:Bytes) (r i:Nat) (n:Name),vs=[.ref a.o,natV r,natV i]∧SerAt T.Race.C T.Series.C H a c t∧(boats c)[i]?=some n∧r≤(races c).length∧Tabs T H ∧
 ∀ (H':Hp) (p:Addr),Sm T H H'→H p=none→ScoreNew H H' p (scoreC c r n)→Q (.ref p) H'
theorem scScore:FnScope ["series","r","boat","points","kept"] ["series","r","boat"] (defScope s_boat_score):=⟨rfl,rfl,rfl,by decide +kernel,rfl,by decide +kernel,by decide +kernel⟩
theorem ok_score (T:Tx P w K mg) (B:BMain mg base):FnOk P w K mg base CX0 7 T.boat_score.f T.boat_score.fd ["series","r","boat"] (spScore T):=by
 have nd:=scScore.nd
 have G1:=ok_pts (base:=base) T
 have G2:=ok_kept T B
 refine T.boat_score.fn.ok scScore (fun vs H Q E h=>?_) (fun cdv A outer s H vs Q E hr h=>?_)
 ·obtain ⟨a,c,t,r,i,n,rfl,_⟩:=h
  rfl
 obtain ⟨a,c,t,r,i,n,rfl,S,hn,hr1,B0,q⟩:=h
 have hlen:=S.good.facts.races_len r
 have hrl:((races c).take r).length=r:=by rw [List.length_take]; omega
 refine ⟨_,pss_cons (ps_set (i:=3) nd rfl (Or.inl rfl) (pe_call G1 (hr.mono (by decide)) rfl T.points_by_race.gl T.points_by_race.fn.kp T.points_by_race.bd .nil pass0 (pa_cons (pv 0) (pa_cons (pv 1) (pa_cons (pv 2) pa_nil)))))
  (pss_cons (ps_set (i:=4) nd rfl (Or.inl rfl) (pe_call G2 (hr.mono (by decide)) rfl T.kept_points.gl T.kept_points.fn.kp T.kept_points.bd .nil pass0 (pa_cons (pv 0) (pa_cons (pv 2) (pa_cons (pv 3) pa_nil)))))
  (pss_one (ps_ret (pe_tup (pa_cons (pe_callB (cr_sum rfl) (by rfl) T.n_sum PyProof.Rows.boot_sum (pa_cons (pv 4) pa_nil)) (pa_cons (pe_callB cr_sorted (by rfl) T.n_sorted PyProof.Rows.boot_sorted (pa_cons (pv 4) pa_nil)) (pa_cons (pe_listRev rfl (by rfl) T.n_list (by rfl) T.n_reversed (pv 3)) pa_nil))))))),?_⟩
 refine ⟨_,rfl,_,rfl,_,rfl,a,c,t,r,i,n,rfl,S,hn,fun H1 pp s1 hpp h1=>?_⟩
 have S1:=S.keep (Kp.of s1)
 have B1:=B0.same s1
 refine ⟨_,rfl,_,rfl,_,rfl,a,c,t,r,i,n,pp,rfl,S1,hn,hr1,h1,B1,fun H2 pk m2 hpk h2=>?_⟩
 have m02:Sm T H H2:=(Sm.of B0 s1).trans m2
 have hkl:(Rc.keptN (boats c).length (howMany c r) ((races c).take r) n).length≤32:=by
  have:=kept_len (boats c).length (howMany c r) ((races c).take r) n ((races c).take r).length
  unfold keptTo at this
  unfold Rc.keptN
  omega
 refine ⟨_,rfl,pk,natsI (Rc.keptN (boats c).length (howMany c r) ((races c).take r) n),rfl,by rw [←natsV_eq]; exact SqL.of h2,?_⟩
 refine ⟨_,rfl,pk,natsI (Rc.keptN (boats c).length (howMany c r) ((races c).take r) n),rfl,by rw [←natsV_eq]; exact SqL.of h2,by unfold natsI; rw [List.length_map]; omega,fun ns' ps hperm hsort hps=>?_⟩
 obtain ⟨ms,rfl,hmp,hms⟩:=nats_perm hperm hsort
 rw [←natsV_eq,Rc.rising_only hmp hms]
 have m3:Sm T H (upd H2 ps (.lst (natsV (Rc.risingN (Rc.keptN (boats c).length (howMany c r) ((races c).take r) n))))):=m02.new hps
 have h3:(upd H2 ps (.lst (natsV (Rc.risingN (Rc.keptN (boats c).length (howMany c r) ((races c).take r) n))))) pp=some (.lst (natsV (Rc.ptsN (boats c).length ((races c).take r) n))):=by
  have e:=m2.kp _ _ h1 rfl
  rw [upd_ne (ne_of_none e hps)]
  exact e
 refine ⟨_,rfl,pp,_,rfl,h3,fun pr hpr=>?_⟩
 have er:(natsV (Rc.ptsN (boats c).length ((races c).take r) n)).reverse=natsV (Rc.ptsN (boats c).length ((races c).take r) n).reverse:=by unfold natsV; rw [List.map_reverse]
 rw [er,natsI_sum]
 have m4:=m3.new (o:=.lst (natsV (Rc.ptsN (boats c).length ((races c).take r) n).reverse)) hpr
 have nsr:ps≠pr:=ne_of_none (H:=upd H2 ps _) upd_same hpr
 refine ⟨(by show 3≤sizeLine; decide),fun p hp=>?_⟩
 have n1:ps≠p:=ne_of_none (H:=upd (upd H2 ps _) pr _) (by rw [upd_ne nsr]; exact upd_same) hp
 have n2:pr≠p:=ne_of_none (H:=upd (upd H2 ps _) pr _) upd_same hp
 refine q _ p (m4.new hp) (m4.free hp) ⟨ps,pr,m02.free hps,m3.free hpr,upd_same,?_,?_⟩
 ·rw [upd_ne n1,upd_ne nsr]
  exact upd_same
 ·rw [upd_ne n2]
  exact upd_same
end
end Rv
end
section
namespace Rv
open PySem PySem.Spec PyProof.Rows L2
open RgScore (Bytes Name Line Series boats outs races ownOf penOf ascii howMany)
section
variable {P:Program} {w:World} {K:PySem.W.Frag} {mg:Str→Option Value} {base:Heap}
theorem ScoreAt.keep {H H':Hp} {p:Addr} {s:Rc.Score} (h:ScoreAt H p s) (k:Kp H H'):ScoreAt H' p s:=by
 obtain ⟨x,y,h1,h2,h3⟩:=h
 exact ⟨x,y,k _ _ h1 rfl,k _ _ h2 rfl,k _ _ h3 rfl⟩
def ScoreOff (D:Addr) (H:Hp) (p:Addr) (s:Rc.Score):Prop:=∃ x y,x≠D∧y≠D∧H p=some (.tup [.int (s.total:Int),.ref x,.ref y])∧H x=some (.lst (natsV s.best))∧H y=some (.lst (natsV s.back))
theorem ScoreOff.keep {D:Addr} {H H':Hp} {p:Addr} {s:Rc.Score} (h:ScoreOff D H p s) (k:Kp H H'):ScoreOff D H' p s:=by
 obtain ⟨x,y,n1,n2,h1,h2,h3⟩:=h
 exact ⟨x,y,n1,n2,k _ _ h1 rfl,k _ _ h2 rfl,k _ _ h3 rfl⟩
theorem ScoreOff.put {D:Addr} {H:Hp} {p:Addr} {s:Rc.Score} {xs:List V} {o:HO} (h:ScoreOff D H p s) (hD:H D=some (.lst xs)):ScoreOff D (upd H D o) p s:=by
 obtain ⟨x,y,n1,n2,h1,h2,h3⟩:=h
 have n3:p≠D:=ne_of h1 hD (by intro z; cases z)
 exact ⟨x,y,n1,n2,by rw [upd_ne n3]; exact h1,by rw [upd_ne n1]; exact h2,by rw [upd_ne n2]; exact h3⟩
theorem ScoreOff.at_ {D:Addr} {H:Hp} {p:Addr} {s:Rc.Score} (h:ScoreOff D H p s):ScoreAt H p s:=let ⟨x,y,_,_,h⟩:=h; ⟨x,y,h⟩
theorem scores_get {c:Series} {r i:Nat} {n:Name} (h:(boats c)[i]?=some n):(Rc.scoresN c r)[i]?=some (scoreC c r n):=by
 unfold Rc.scoresN
 rw [List.getElem?_map,h]
 rfl
def spAll (T:Tx P w K mg):Sp:=fun vs H Q _=>∃ (a:SerAd) (c:Series) (t:Bytes) (r:Nat),vs=[.ref a.o,natV r]∧SerAt T.Race.C T.Series.C H a c t∧r≤(races c).length∧Tabs T H ∧
 ∀ (H':Hp) (p:Addr),Sm T H H'→H p=none→ScoresAt H' p (Rc.scoresN c r)→Q (.ref p) H'
theorem scAll:FnScope ["series","r","boat"] ["series","r"] (defScope s_all_scores):=⟨rfl,rfl,rfl,by decide +kernel,rfl,by decide +kernel,by decide +kernel⟩
theorem ok_all (T:Tx P w K mg) (B:BMain mg base):FnOk P w K mg base CX0 8 T.all_scores.f T.all_scores.fd ["series","r"] (spAll T):=by
 have nd:=scAll.nd
 have G:=ok_score T B
 refine T.all_scores.fn.ok scAll (fun vs H Q E h=>?_) (fun cdv A outer s H vs Q E hr h=>?_)
 ·obtain ⟨a,c,t,r,rfl,_⟩:=h
  rfl
 obtain ⟨a,c,t,r,rfl,S,hr1,B0,q⟩:=h
 have hb:=S.good.facts.nb
 obtain ⟨dS,hS⟩:=S.obj
 obtain ⟨kvs,hk1,hk2,_⟩:=S.hBoats
 refine ⟨_,pss_one (ps_ret (pe_lc rfl nd (pi_range1 rfl T.n_range (pa_cons (pe_callB call_lenD (by rfl) T.n_len PySem.boot_len (pa_cons (pe_fld (pv 0) rfl) pa_nil)) pa_nil)) (own:=[("boat",2)]) (blkOk_by (by rfl)) (fun _ _ _ _ _=>pg_name (i:=2) nd rfl (Or.inl rfl)) (fun _ _ _ _ _=>pts_nil) (fun _ _ _ _ _=>(pe_call G (hr.mono (by decide)) rfl T.boat_score.gl T.boat_score.fn.kp T.boat_score.bd .nil pass0 (pa_cons (pv 0) (pa_cons (pv 1) (pa_cons (pv 2) pa_nil))))))),?_⟩
 refine ⟨_,rfl,a.o,_,dS,_,_,rfl,hS,T.Series.cl,T.a_Series_boats,ser_boats _ _ _ _ _,a.bd,kvs,rfl,hk1,(boats c).length,by rw [hk2],by omega,by omega,fun D hD=>?_⟩
 rw [Int.toNat_natCast]
 refine lc_range (lo:=0) (n:=(boats c).length) (fun k H'=>Sm T H H'∧∃ ps:List Addr,H' D=some (.lst (ps.map V.ref))∧ps.length=k∧∀ (i:Nat) (p:Addr) (b:Rc.Score),ps[i]?=some p→(Rc.scoresN c r)[i]?=some b→ScoreOff D H' p b)
  ⟨(Sm.refl B0).new hD,[],upd_same,rfl,fun i p b h=>(by simp at h)⟩ ?_ ?_
 ·rintro k H' hk ⟨m1,ps,h1,h2,h3⟩
  have hn:(boats c)[k]?=some (boats c)[k]:=List.getElem?_eq_getElem hk
  refine ⟨rfl,?_⟩
  dsimp only [tYes,gName]
  rw [if_pos rfl]
  refine ⟨_,rfl,_,rfl,_,rfl,a,c,t,r,k,(boats c)[k],by rw [Int.zero_add]; rfl,S.keep m1.kp,hn,hr1,m1.tb,fun H2 p m2 hp hs=>?_⟩
  have h1':=m2.kp _ _ h1 rfl
  refine ⟨_,h1',by rw [List.length_map]; exact line10' (by omega),(m1.trans m2).put hD (.inr ⟨_,h1'⟩),ps++[p],?_,by rw [List.length_append,h2]; rfl,fun i p' b hi hb'=>?_⟩
  ·rw [upd_same,List.map_append]
   rfl
  ·by_cases e:i < ps.length
   ·rw [List.getElem?_append_left e] at hi
    exact ((h3 i p' b hi hb').keep m2.kp).put h1'
   ·have hi':=(List.getElem?_eq_some_iff.mp hi).1
    rw [List.length_append] at hi'
    have ei:i=k:=by
     have:([p]:List Addr).length=1:=rfl
     omega
    subst ei
    rw [List.getElem?_append_right (by omega),h2,Nat.sub_self] at hi
    cases hi
    rw [scores_get hn] at hb'
    cases hb'
    obtain ⟨x,y,z1,z2,z3,z4,z5⟩:=hs
    have y1:x≠D:=(ne_of_none h1 z1).symm
    have y2:y≠D:=(ne_of_none h1 z2).symm
    exact ScoreOff.put ⟨x,y,y1,y2,z3,z4,z5⟩ h1'
 ·rintro H' ⟨m1,ps,h1,h2,h3⟩
  refine q H' D m1 hD ⟨ps,h1,?_,fun i p b hi hb'=>(h3 i p b hi hb').at_⟩
  rw [h2]
  unfold Rc.scoresN
  rw [List.length_map]
def rLtE:R2:=fun x y H Q=>(∃ i j,x=.int i∧y=.int j∧Q (.bl (decide (i < j))) H)∨(∃ p q a b,x=.ref p∧y=.ref q∧H p=some (.lst (natsV a))∧H q=some (.lst (natsV b))∧Q (.bl (Rc.pyLt a b)) H)
theorem op_ltE {X:Cx} (hu:X.A.units < cLine):OpR X (compareOp .Lt) rLtE:=by
 intro pins s σ H x y v u Q I rx ry h
 rcases h with h | h
 ·exact op_lt pins s σ H x y v u Q I rx ry h
 ·exact op_ltL hu pins s σ H x y v u Q I rx ry h
def rl (a b:Rc.Score):Nat→Bool
 | 0=>decide (a.total < b.total)
 | 1=>Rc.pyLt a.best b.best
 | _=>Rc.pyLt a.back b.back
def Tied (a b:Rc.Score) (k:Nat):Prop:=∀ j,j < k→rl a b j=false∧rl b a j=false
theorem who_rl (a b:Rc.Score):Rc.whoN a b=if rl a b 0=true then (1,1) else if rl b a 0=true then (2,1) else if rl a b 1=true then (1,2) else if rl b a 1=true then (2,2) else if rl a b 2=true then (1,3) else if rl b a 2=true then (2,3) else (0,0):=by
 unfold Rc.whoN rl
 simp only [decide_eq_true_eq]
theorem who_first {a b:Rc.Score} {k:Nat} (h:Tied a b k) (hk:k < 3) (e:rl a b k=true):Rc.whoN a b=(1,k + 1):=by
 rw [who_rl]
 match k,hk with
 | 0,_=>rw [e]; rfl
 | 1,_ =>
  obtain ⟨h1,h2⟩:=h 0 (by omega)
  rw [h1,h2,e]; rfl
 | 2,_ =>
  obtain ⟨h1,h2⟩:=h 0 (by omega)
  obtain ⟨h3,h4⟩:=h 1 (by omega)
  rw [h1,h2,h3,h4,e]; rfl
theorem who_second {a b:Rc.Score} {k:Nat} (h:Tied a b k) (hk:k < 3) (e1:rl a b k=false) (e:rl b a k=true):Rc.whoN a b=(2,k + 1):=by
 rw [who_rl]
 match k,hk with
 | 0,_=>rw [e1,e]; rfl
 | 1,_ =>
  obtain ⟨h1,h2⟩:=h 0 (by omega)
  rw [h1,h2,e1,e]; rfl
 | 2,_ =>
  obtain ⟨h1,h2⟩:=h 0 (by omega)
  obtain ⟨h3,h4⟩:=h 1 (by omega)
  rw [h1,h2,h3,h4,e1,e]; rfl
theorem who_none {a b:Rc.Score} (h:Tied a b 3):Rc.whoN a b=(0,0):=by
 rw [who_rl]
 obtain ⟨h1,h2⟩:=h 0 (by omega)
 obtain ⟨h3,h4⟩:=h 1 (by omega)
 obtain ⟨h5,h6⟩:=h 2 (by omega)
 rw [h1,h2,h3,h4,h5,h6]
 rfl
theorem ev_rule {σ:L2.St} {H:Hp} {ta tb tk:TE} {p q:Addr} {a b:Rc.Score} {k:Nat} (hk:k < 3) (hp:ScoreAt H p a) (hq:ScoreAt H q b) (ea:Ev ta σ H (.ref p)) (eb:Ev tb σ H (.ref q)) (ek:Ev tk σ H (.int (k:Int))) :
  EvT (tTest (tOp rLtE (tOp (rIxT K) ta tk) (tOp (rIxT K) tb tk))) σ H (rl a b k):=by
 obtain ⟨x,y,h1,h2,h3⟩:=hp
 obtain ⟨x',y',h1',h2',h3'⟩:=hq
 refine evt_test fun Q z=>?_
 match k,hk with
 | 0,_ =>
  refine ev_ixT ea ek (SqT.of h1) (at_ix (j:=0) rfl rfl) _ (ev_ixT eb ek (SqT.of h1') (at_ix (j:=0) rfl rfl) _ (.inl ⟨_,_,rfl,rfl,?_⟩))
  have e:decide ((a.total:Int) < (b.total:Int))=rl a b 0:=by
   show decide ((a.total:Int) < (b.total:Int))=decide (a.total < b.total)
   rw [Bool.eq_iff_iff,decide_eq_true_eq,decide_eq_true_eq]
   omega
  rw [e]
  exact z
 | 1,_=>exact ev_ixT ea ek (SqT.of h1) (at_ix (j:=1) rfl rfl) _ (ev_ixT eb ek (SqT.of h1') (at_ix (j:=1) rfl rfl) _ (.inr ⟨x,x',_,_,rfl,rfl,h2,h2',z⟩))
 | 2,_=>exact ev_ixT ea ek (SqT.of h1) (at_ix (j:=2) rfl rfl) _ (ev_ixT eb ek (SqT.of h1') (at_ix (j:=2) rfl rfl) _ (.inr ⟨y,y',_,_,rfl,rfl,h3,h3',z⟩))
def spWho:Sp:=fun vs H Q _=>∃ (p q:Addr) (a b:Rc.Score),vs=[.ref p,.ref q]∧ScoreAt H p a∧ScoreAt H q b∧∀ (H':Hp) (l:Addr),Same H H'→H l=none→H' l=some (.lst (natsV [(Rc.whoN a b).1,(Rc.whoN a b).2]))→Q (.ref l) H'
theorem scWho:FnScope ["one","other","rule"] ["one","other"] (defScope s_who_is_before):=⟨rfl,rfl,rfl,by decide +kernel,rfl,by decide +kernel,by decide +kernel⟩
theorem ok_who (T:Tx P w K mg):FnOk P w K mg base CX0 1 T.who_is_before.f T.who_is_before.fd ["one","other"] spWho:=by
 have nd:=scWho.nd
 refine T.who_is_before.fn.ok scWho (fun vs H Q E h=>?_) (fun cdv A outer s H vs Q E hr h=>?_)
 ·obtain ⟨p,q,a,b,rfl,_⟩:=h
  rfl
 obtain ⟨p,q,a,b,rfl,hp,hq,k0⟩:=h
 have hu:=hr.units0
 refine ⟨_,pss_cons (ps_for PassesOwn.never rfl (pi_range1 rfl T.n_range (pa_cons (pe_callB call_len_seq (by rfl) T.n_len PySem.boot_len (pa_cons (pv 0) pa_nil)) pa_nil)) (pg_name (i:=2) nd rfl (Or.inl rfl))
   (pss_cons (ps_if (pt_cmpR (op_ltE hu) (pe_ix ix_tup (pv 0) (pv 2) (fun _ _=>rfl)) (pe_ix ix_tup (pv 1) (pv 2) (fun _ _=>rfl)) (nomark _)) (pss_one (ps_ret (pe_lst (pa_cons pe_int (pa_cons (pe_op op_add (pv 2) pe_int) pa_nil))))) pss_nil)
   (pss_one (ps_if (pt_cmpR (op_ltE hu) (pe_ix ix_tup (pv 1) (pv 2) (fun _ _=>rfl)) (pe_ix ix_tup (pv 0) (pv 2) (fun _ _=>rfl)) (nomark _)) (pss_one (ps_ret (pe_lst (pa_cons pe_int (pa_cons (pe_op op_add (pv 2) pe_int) pa_nil))))) pss_nil))))
  (pss_one (ps_ret (pe_lst (pa_cons pe_int (pa_cons pe_int pa_nil))))),?_⟩
 have hlen:∃ xs,SqT K H p xs∧xs.length=3:=let ⟨x,y,h1,_,_⟩:=hp; ⟨_,SqT.of h1,rfl⟩
 obtain ⟨xs,hx,hxl⟩:=hlen
 refine ⟨_,rfl,p,xs,rfl,.inr hx,3,by rw [hxl]; rfl,by decide,by decide,for_range (lo:=0) (n:=3) (fun k σ H'=>H'=H∧(∃ v:Option V,σ=[some (.ref p),some (.ref q),v])∧Tied a b k) ⟨rfl,⟨none,rfl⟩,fun j hj=>absurd hj (Nat.not_lt_zero j)⟩ ?_ ?_⟩
 ·rintro k σ H' hk ⟨rfl,⟨v,rfl⟩,ht⟩
  have ek:(0:Int) + (k:Int)=(k:Int):=Int.zero_add _
  rw [ek]
  have done:∀ (d:Nat),Rc.whoN a b=(d,k + 1)→∀ l,H' l=none→Q (.ref l) (upd H' l (.lst [.int (d:Int),.int ((k:Int) + 1)])):=fun d e l hl=>by
   refine k0 _ l (Same.new hl) hl ?_
   rw [upd_same,e]
   rfl
  ((try dsimp only [tSeq,tNext,gName]); apply rd_if; exact (ev_rule (K:=K) hk hp hq (ev_var rfl) (ev_var rfl) (ev_var rfl)))
  ·intro h
   refine ⟨_,rfl,_,_,rfl,rfl,(by show 2≤sizeLine; decide),fun l hl=>?_⟩
   exact done 1 (who_first ht hk h) l hl
  ·intro h1
   ((try dsimp only [tSeq,tNext,gName]); apply rd_if; exact (ev_rule (K:=K) hk hq hp (ev_var rfl) (ev_var rfl) (ev_var rfl)))
   ·intro h
    refine ⟨_,rfl,_,_,rfl,rfl,(by show 2≤sizeLine; decide),fun l hl=>?_⟩
    exact done 2 (who_second ht hk h1 h) l hl
   ·intro h2
    refine ⟨rfl,⟨_,rfl⟩,fun j hj=>?_⟩
    by_cases e:j=k
    ·rw [e]; exact ⟨h1,h2⟩
    ·exact ht j (by omega)
 ·rintro σ H' ⟨rfl,⟨v,rfl⟩,ht⟩
  refine ⟨(by show 2≤sizeLine; decide),fun l hl=>?_⟩
  refine k0 _ l (Same.new hl) hl ?_
  rw [upd_same,who_none ht]
  rfl
end
end Rv
end
section
namespace Rv
open PySem PySem.Spec PyProof.Rows L2
open RgScore (Bytes Name Line Series boats outs races ownOf penOf ascii howMany)
section
variable {P:Program} {w:World} {K:PySem.W.Frag} {mg:Str→Option Value} {base:Heap}
def rLtS:R2:=fun x y H Q=>∃ p q a b,x=.ref p∧y=.ref q∧ScoreAt H p a∧ScoreAt H q b∧Q (.bl (Rc.scoreLt a b)) H
theorem ScoresAt.keep {H H':Hp} {l:Addr} {ss:List Rc.Score} (h:ScoresAt H l ss) (k:Kp H H'):ScoresAt H' l ss:=by
 obtain ⟨ps,h1,h2,h3⟩:=h
 exact ⟨ps,k _ _ h1 rfl,h2,fun i p b e1 e2=>(h3 i p b e1 e2).keep k⟩
def aheadN (c:Series) (r:Nat) (n:Name) (k:Nat):Nat:=(((Rc.scoresN c r).take k).filter fun s=>Rc.scoreLt s (scoreC c r n)).length
theorem ahead_snoc {c:Series} {r:Nat} {n:Name} {k:Nat} {b:Rc.Score} (h:(Rc.scoresN c r)[k]?=some b):aheadN c r n (k + 1)=aheadN c r n k + (if Rc.scoreLt b (scoreC c r n)=true then 1 else 0):=by
 unfold aheadN
 rw [take_snoc h,List.filter_append,List.length_append,List.filter_cons,List.filter_nil]
 cases Rc.scoreLt b (scoreC c r n) <;> rfl
def spPlace (T:Tx P w K mg):Sp:=fun vs H Q _=>∃ (a:SerAd) (c:Series) (t:Bytes) (r i:Nat) (n:Name),vs=[.ref a.o,natV r,natV i]∧SerAt T.Race.C T.Series.C H a c t∧(boats c)[i]?=some n∧r≤(races c).length∧Tabs T H ∧
 ∀ (H':Hp) (p:Addr),Sm T H H'→H p=none→H' p=some (.lst (natsV [1 + ((Rc.scoresN c r).filter fun s=>Rc.scoreLt s (scoreC c r n)).length,((Rc.scoresN c r).filter fun s=>decide (s=scoreC c r n)).length]))→Q (.ref p) H'
theorem scPlace:FnScope ["series","r","boat","scores","ahead","score"] ["series","r","boat"] (defScope s_place_and_shared):=⟨rfl,rfl,rfl,by decide +kernel,rfl,by decide +kernel,by decide +kernel⟩
theorem ok_place (T:Tx P w K mg) (B:BMain mg base):FnOk P w K mg base CX0 9 T.place_and_shared.f T.place_and_shared.fd ["series","r","boat"] (spPlace T):=by
 have nd:=scPlace.nd
 have G:=ok_all T B
 refine T.place_and_shared.fn.ok scPlace (fun vs H Q E h=>?_) (fun cdv A outer s H vs Q E hr h=>?_)
 ·obtain ⟨a,c,t,r,i,n,rfl,_⟩:=h
  rfl
 obtain ⟨a,c,t,r,i,n,rfl,S,hn,hr1,B0,q⟩:=h
 have hb:=S.good.facts.nb
 have hu:(A.deeper (envOfC "place_and_shared" (defScope s_place_and_shared) s.heap.objs.size T.place_and_shared.f cdv)).units + 70 < cLine:=by
  have:=hr.un
  omega
 refine ⟨_,pss_cons (ps_set (i:=3) nd rfl (Or.inr rfl) (pe_call G (hr.mono (by decide)) rfl T.all_scores.gl T.all_scores.fn.kp T.all_scores.bd .nil pass0 (pa_cons (pv 0) (pa_cons (pv 1) pa_nil))))
  (pss_cons (ps_setLc (i:=4) (tt:=tTest (tOp rLtS (tVar 5) (tOp (rIxL K) (tVar 3) (tVar 2)))) rfl nd rfl rfl (sw_true rfl rfl rfl (by decide +kernel)) (pi_list (pv 3)) (own:=[("score",5)]) (blkOk_by (by rfl)) (fun _ _ _ _ _=>pg_name (i:=5) nd rfl (Or.inl rfl)) (fun _ _ _ _ _=>(pts_one (pt_cmpR (op_ltS hu) (pv 5) (pe_ix ix_list (pv 3) (pv 2) (fun _ _=>rfl)) (nomark _)))) (fun _ _ _ _ _=>(pv 5)))
  (pss_one (ps_ret (pe_lst (pa_cons (pe_op op_add pe_int (pe_callB call_len_seq (by rfl) T.n_len PySem.boot_len (pa_cons (pv 4) pa_nil))) (pa_cons (pe_bm PySem.F.plainAttrs_list PySem.F.slot_list_count PySem.F.type_list_count (mt_countS hu) (pv 3) (pa_cons (pe_ix ix_list (pv 3) (pv 2) (fun _ _=>rfl)) pa_nil)) pa_nil)))))),?_⟩
 refine ⟨_,rfl,_,rfl,a,c,t,r,rfl,S,hr1,B0,fun H1 l m1 hl hs=>?_⟩
 have hsl:(Rc.scoresN c r).length=(boats c).length:=by unfold Rc.scoresN; rw [List.length_map]
 have hs1:=hs
 obtain ⟨ps,h1,h2,h3⟩:=hs
 have hi:i < ps.length:=by
  have:=(List.getElem?_eq_some_iff.mp hn).1
  omega
 have hpi:ps[i]?=some ps[i]:=List.getElem?_eq_getElem hi
 have hsi:=h3 i _ _ hpi (scores_get hn)
 refine ⟨_,rfl,l,rfl,⟨_,SqL.of h1⟩,fun D hD=>?_⟩
 have hD0:H D=none:=m1.free hD
 have nlD:l≠D:=ne_of_none h1 hD
 refine lc_list (K:=K) (a:=l) (xs:=ps.map V.ref) (fun k H'=>Same H1 H'∧∃ acc,H' D=some (.lst acc)∧acc.length=aheadN c r n k∧acc.length≤k) ⟨Same.new hD,[],upd_same,rfl,Nat.zero_le _⟩ (fun k H' _ h=>SqL.of (h.1 _ _ h1)) ?_ ?_
 ·rintro k y H' hy ⟨s1,acc,g1,g2,g3⟩
  obtain ⟨p,hp,rfl⟩:∃ p,ps[k]?=some p∧y=.ref p:=by
   rw [List.getElem?_map] at hy
   cases e:ps[k]? with
   | none=>rw [e] at hy; cases hy
   | some o=>rw [e] at hy; exact ⟨o,rfl,(Option.some.inj hy).symm⟩
  have hk:k < ps.length:=(List.getElem?_eq_some_iff.mp hp).1
  have hb':(Rc.scoresN c r)[k]?=some ((Rc.scoresN c r)[k]'(by omega)):=List.getElem?_eq_getElem _
  have hpk:=(h3 k p _ hp hb').keep (Kp.of s1)
  have hpi':=hsi.keep (Kp.of s1)
  have en:=ahead_snoc (n:=n) hb'
  refine ⟨rfl,?_⟩
  refine ⟨_,rfl,_,rfl,_,rfl,l,_,_,_,rfl,rfl,SqL.of (s1 _ _ h1),at_ix (j:=i) rfl (by rw [List.getElem?_map,hpi]; rfl),p,ps[i],_,_,rfl,rfl,hpk,hpi',_,rfl,?_⟩
  cases hv:Rc.scoreLt ((Rc.scoresN c r)[k]'(by omega)) (scoreC c r n) with
  | true =>
   refine iteT ⟨_,rfl,acc,g1,line10' (by omega),s1.put hD,_,upd_same,?_,?_⟩
   ·rw [en,hv,if_pos rfl,List.length_append,g2]; rfl
   ·rw [List.length_append]
    show acc.length + 1≤k + 1
    omega
  | false =>
   refine iteF ⟨s1,acc,g1,?_,by omega⟩
   rw [en,hv,if_neg Bool.false_ne_true,g2]
   rfl
 ·rintro H' ⟨s1,acc,g1,g2,g3⟩
  rw [List.length_map] at g2
  have hs2:=hs1.keep (Kp.of s1)
  refine ⟨_,rfl,D,_,rfl,.inl (SqL.of g1),_,_,rfl,rfl,?_⟩
  refine ⟨_,rfl,.inl ⟨rfl,_,SqL.of (s1 _ _ h1)⟩,_,rfl,_,rfl,l,_,_,_,rfl,rfl,SqL.of (s1 _ _ h1),at_ix (j:=i) rfl (by rw [List.getElem?_map,hpi]; rfl),l,ps[i],scoreC c r n,Rc.scoresN c r,rfl,rfl,hs2,hsi.keep (Kp.of s1),?_⟩
  refine ⟨(by show 2≤sizeLine; decide),fun p hp=>?_⟩
  have m2:Sm T H H':=m1.more s1
  refine q _ p (m2.new hp) (m2.free hp) ?_
  rw [upd_same,g2]
  unfold aheadN
  rw [List.take_of_length_le (by omega)]
  rfl
end
end Rv
end
section
namespace Rv
open PySem PySem.Spec PyProof.Rows L2
open RgScore (Bytes Name Line Series boats outs races ownOf penOf ascii thisRace stands wrongOf tooMany)
section
variable {σ:L2.St} {H:Hp} {ta tb:TE} {i j:Int}
theorem ev_gt (a:Ev ta σ H (.int i)) (b:Ev tb σ H (.int j)):Ev (tOp (rI0 fun i j=>.bl (decide (j < i))) ta tb) σ H (.bl (decide (j < i))):=ev_i0 a b
theorem ev_ge (a:Ev ta σ H (.int i)) (b:Ev tb σ H (.int j)):Ev (tOp (rI0 fun i j=>.bl (decide (j≤i))) ta tb) σ H (.bl (decide (j≤i))):=ev_i0 a b
theorem ev_le (a:Ev ta σ H (.int i)) (b:Ev tb σ H (.int j)):Ev (tOp (rI0 fun i j=>.bl (decide (i≤j))) ta tb) σ H (.bl (decide (i≤j))):=ev_i0 a b
theorem ev_lt (a:Ev ta σ H (.int i)) (b:Ev tb σ H (.int j)):Ev (tOp (rI0 fun i j=>.bl (decide (i < j))) ta tb) σ H (.bl (decide (i < j))):=ev_i0 a b
theorem ev_neg (a:Ev ta σ H (.int i)):Ev (tUn (rU fun i=>.int (-i)) ta) σ H (.int (-i)):=ev_un a
end
theorem dec_pos (n:Nat):decide ((0:Int) < (n:Int))=decide (0 < n):=by rw [Bool.eq_iff_iff,decide_eq_true_eq,decide_eq_true_eq]; omega
theorem dec_zero (n:Nat):decide (natV n=V.int 0)=decide (n=0):=by
 rw [Bool.eq_iff_iff,decide_eq_true_eq,decide_eq_true_eq]
 constructor
 ·intro h
  injection h with h
  omega
 ·intro h
  rw [h]
  rfl
theorem dec_le (k n:Nat):decide ((k:Int)≤(n:Int))=decide (k≤n):=by rw [Bool.eq_iff_iff,decide_eq_true_eq,decide_eq_true_eq]; omega
section
variable {P:Program} {w:World} {K:PySem.W.Frag} {mg:Str→Option Value} {base:Heap}
theorem LineAt.evWord {σ:L2.St} {H:Hp} {te:TE} {lo na:Addr} {t:Bytes×Bytes×List Nat} (T:Tx P w K mg) (L:LineAt T.Line.C H lo t na) (e:Ev te σ H (.ref lo)):Ev (tFld K te "word") σ H (.str (strOf t.1)):=let ⟨_,h⟩:=L.obj; ev_fld e h T.Line.cl T.a_Line_word (line_word _ _ _)
theorem LineAt.evName {σ:L2.St} {H:Hp} {te:TE} {lo na:Addr} {t:Bytes×Bytes×List Nat} (T:Tx P w K mg) (L:LineAt T.Line.C H lo t na) (e:Ev te σ H (.ref lo)):Ev (tFld K te "name") σ H (.str (strOf t.2.1)):=let ⟨_,h⟩:=L.obj; ev_fld e h T.Line.cl T.a_Line_name (line_name _ _ _)
theorem LineAt.evNums {σ:L2.St} {H:Hp} {te:TE} {lo na:Addr} {t:Bytes×Bytes×List Nat} (T:Tx P w K mg) (L:LineAt T.Line.C H lo t na) (e:Ev te σ H (.ref lo)):Ev (tFld K te "numbers") σ H (.ref na):=let ⟨_,h⟩:=L.obj; ev_fld e h T.Line.cl T.a_Line_numbers (line_nums _ _ _)
theorem LineAt.keep {C:Addr} {H H':Hp} {lo na:Addr} {t:Bytes×Bytes×List Nat} (L:LineAt C H lo t na) (k:Kp H H'):LineAt C H' lo t na:=by
 obtain ⟨⟨dx,h1⟩,h2⟩:=L
 exact ⟨⟨dx,k _ _ h1 rfl⟩,k _ _ h2 rfl⟩
theorem SerAt.last {cR cS:Addr} {H:Hp} {a:SerAd} {c:Series} {t:Bytes} (S:SerAt cR cS H a c t) (h:races c≠[]) :
  ∃ (rs:List RaceAd) (x:RaceAd) (r:List (List Line)) (ls:List Line),a.rs=rs++[x]∧races c=r++[ls]∧rs.length=r.length∧RaceAt cR a.okn H (boats c) c.length ls x∧thisRace c=ls:=by
 obtain ⟨r,ls,e⟩:=Rc.races_split h
 have hl:=S.hRaces.2.1
 have hn:a.rs≠[]:=fun z=>by
  rw [z,e] at hl
  simp at hl
 have e2:=(List.dropLast_concat_getLast hn).symm
 have hl2:a.rs.dropLast.length=r.length:=by
  rw [e,List.length_append] at hl
  rw [List.length_dropLast,hl]
  simp
 refine ⟨a.rs.dropLast,a.rs.getLast hn,r,ls,e2,e,hl2,S.hRaces.2.2 r.length _ ls ?_ ?_,Rc.this_last e⟩
 ·conv=>lhs; rw [e2]
  rw [List.getElem?_append_right (by omega),hl2,Nat.sub_self]
  rfl
 ·rw [e,List.getElem?_append_right (Nat.le_refl _),Nat.sub_self]
  rfl
theorem SerAt.evLast {σ:L2.St} {H:Hp} {te:TE} {a:SerAd} {c:Series} {t:Bytes} {rs:List RaceAd} {x:RaceAd} (T:Tx P w K mg) (S:SerAt T.Race.C T.Series.C H a c t) (e:a.rs=rs++[x]) (ev:Ev te σ H (.ref a.o)) :
  Ev (tOp (rIxL K) (tFld K te "races") (tUn (rU fun i=>.int (-i)) (tC (.int 1)))) σ H (.ref x.o):=by
 refine ev_ixL (S.evRaces T ev) (ev_neg ev_c) (SqL.of S.hRaces.1) ?_
 rw [e,List.map_append]
 exact atI_last _ _
def spMayPen (cR:Addr):Sp:=fun vs H Q _=>∃ (x:RaceAd) (ok:Addr→Prop) (bs:List Name) (m:Nat) (ls:List Line) (i:Nat) (n:Name),vs=[.ref x.o,natV i]∧RaceAt cR ok H bs m ls x∧bs[i]?=some n∧∀ H',Same H H'→Q (.bl (Rc.penable (ownOf ls n))) H'
theorem scMayPen:FnScope ["race","boat"] ["race","boat"] (defScope s_may_have_pen):=⟨rfl,rfl,rfl,by decide +kernel,rfl,by decide +kernel,by decide +kernel⟩
theorem penable_in (l:Line):inV (.str (strOf (Rc.lineP l).1)) [.str "place",.str "miss"]=Rc.penable (some l):=by
 rw [←w_place,←w_miss]
 cases l with
 | boat n=>exact (by decide +kernel:inV (.str (strOf (ascii "boat"))) [.str (strOf (ascii "place")),.str (strOf (ascii "miss"))]=false)
 | out r k=>exact (by decide +kernel:inV (.str (strOf (ascii "out"))) [.str (strOf (ascii "place")),.str (strOf (ascii "miss"))]=false)
 | race=>exact (by decide +kernel:inV (.str (strOf (ascii "race"))) [.str (strOf (ascii "place")),.str (strOf (ascii "miss"))]=false)
 | place n p s=>exact (by decide +kernel:inV (.str (strOf (ascii "place"))) [.str (strOf (ascii "place")),.str (strOf (ascii "miss"))]=true)
 | miss n=>exact (by decide +kernel:inV (.str (strOf (ascii "miss"))) [.str (strOf (ascii "place")),.str (strOf (ascii "miss"))]=true)
 | dis n=>exact (by decide +kernel:inV (.str (strOf (ascii "dis"))) [.str (strOf (ascii "place")),.str (strOf (ascii "miss"))]=false)
 | avg n=>exact (by decide +kernel:inV (.str (strOf (ascii "avg"))) [.str (strOf (ascii "place")),.str (strOf (ascii "miss"))]=false)
 | pen n k=>exact (by decide +kernel:inV (.str (strOf (ascii "pen"))) [.str (strOf (ascii "place")),.str (strOf (ascii "miss"))]=false)
theorem ok_may_pen (T:Tx P w K mg):FnOk P w K mg base CX0 1 T.may_have_pen.f T.may_have_pen.fd ["race","boat"] (spMayPen T.Race.C):=by
 refine T.may_have_pen.fn.ok scMayPen (fun vs H Q E h=>?_) (fun cdv A outer s H vs Q E hr h=>?_)
 ·obtain ⟨x,ok,bs,m,ls,i,n,rfl,_⟩:=h
  rfl
 obtain ⟨x,ok,bs,m,ls,i,n,rfl,R,hn,q⟩:=h
 have hu:=hu_of hr
 obtain ⟨dx,ho⟩:=R.obj
 obtain ⟨kvs,hk,hm,hres⟩:=R.res
 have h1:=hres i n hn
 refine ⟨_,pss_one (ps_ret (pe_and (pe_cmp (pc_din hu (pv 1) (pe_fld (pv 0) rfl))) (pe_one (pe_cmpR op_in_seq (pe_ix ix_tup (pe_dget hu (pe_fld (pv 0) rfl) (pv 1) (fun _ _=>rfl)) pe_int (fun _ _=>rfl)) (pe_tup (pa_cons pe_str (pa_cons pe_str pa_nil))) (by with_unfolding_all rfl))))),?_⟩
 have V0:Ev (tVar 0) (L2.start ["race","boat"] [V.ref x.o,natV i]) H (.ref x.o):=ev_var rfl
 have V1:Ev (tVar 1) (L2.start ["race","boat"] [V.ref x.o,natV i]) H (.int (i:Int)):=ev_var rfl
 dsimp only [tRet,tAndV]
 refine ev_din (k:=Sum.inl (i:Int)) V1 (ev_fld V0 ho T.Race.cl T.a_Race_results (race_res _ _)) hk _ ?_
 cases e:valV kvs (Sum.inl (i:Int)) with
 | none =>
  refine ⟨false,rfl,iteF ?_⟩
  cases e2:ownOf ls n with
  | some l=>rw [e,e2] at h1; exact h1.elim
  | none =>
   rw [e2] at q
   exact q H (Same.refl H)
 | some v =>
  cases e2:ownOf ls n with
  | none=>rw [e,e2] at h1; exact h1.elim
  | some l =>
   rw [e,e2] at h1
   obtain ⟨t,na,rfl,ht,_,_⟩:=h1
   rw [e2] at q
   refine ⟨true,rfl,iteT ?_⟩
   refine ev_ixT (ev_dget (k:=Sum.inl (i:Int)) (ev_fld V0 ho T.Race.cl T.a_Race_results (race_res _ _)) V1 hk e) ev_c (SqT.of ht) (at_ix (j:=0) rfl rfl) _ ?_
   refine ⟨(by show 2≤sizeLine; decide),fun p hp=>⟨p,_,rfl,.inr (SqT.of upd_same),rfl,rfl,?_⟩⟩
   have:=q _ (Same.new (o:=.tup [.str "place",.str "miss"]) hp)
   rw [←penable_in l] at this
   exact this
def spCant (T:Tx P w K mg):Sp:=fun vs H Q _=>∃ (a:SerAd) (c:Series) (t:Bytes) (lo na:Addr) (l:Line),vs=[.ref a.o,.ref lo]∧SerAt T.Race.C T.Series.C H a c t∧LineAt T.Line.C H lo (Rc.lineP l) na∧∀ H',Same H H'→Q (.bl (!stands c l)) H'
def spCantIn (T:Tx P w K mg):Sp:=fun vs H Q _=>∃ (a:SerAd) (c:Series) (t:Bytes) (lo na:Addr) (l:Line),vs=[.ref a.o,.ref lo]∧SerAt T.Race.C T.Series.C H a c t∧LineAt T.Line.C H lo (Rc.lineP l) na∧Rc.inRace l=true∧∀ H',Same H H'→Q (.bl (!stands c l)) H'
theorem scCantIn:FnScope ["series","line"] ["series","line"] (defScope s_boat_line_cant_stand):=⟨rfl,rfl,rfl,by decide +kernel,rfl,by decide +kernel,by decide +kernel⟩
theorem scCant:FnScope ["series","line"] ["series","line"] (defScope s_cant_stand):=⟨rfl,rfl,rfl,by decide +kernel,rfl,by decide +kernel,by decide +kernel⟩
theorem name_in {l:Line} (h:Rc.inRace l=true):(Rc.lineP l).2.1=Rc.nameOf l:=by cases l <;> cases h <;> rfl
theorem SerAt.name_some {cR cS:Addr} {H:Hp} {a:SerAd} {c:Series} {t:Bytes} (S:SerAt cR cS H a c t) (n:Name):∃ kvs,H a.bd=some (.dK kvs)∧(valV kvs (Sum.inr (strOf n))).isSome=(boats c).contains n∧∀ v,valV kvs (Sum.inr (strOf n))=some v→∃ i,v=natV i∧(boats c)[i]?=some n:=by
 obtain ⟨kvs,h1,h2,h3⟩:=S.hBoats
 refine ⟨kvs,h1,?_,fun v hv=>?_⟩
 ·rw [h3,Option.isSome_map,Rc.idx_isSome]
 ·rw [h3] at hv
  cases e:(boats c).idxOf? n with
  | none=>rw [e] at hv; cases hv
  | some i =>
   rw [e] at hv
   exact ⟨i,(Option.some.inj hv).symm,Rc.idx_some e⟩
theorem ok_cant_in (T:Tx P w K mg):FnOk P w K mg base CX0 2 T.boat_line_cant_stand.f T.boat_line_cant_stand.fd ["series","line"] (spCantIn T):=by
 have G:=ok_may_pen (base:=base) T
 refine T.boat_line_cant_stand.fn.ok scCantIn (fun vs H Q E h=>?_) (fun cdv A outer s H vs Q E hr h=>?_)
 ·obtain ⟨a,c,t,lo,na,l,rfl,_⟩:=h
  rfl
 obtain ⟨a,c,t,lo,na,l,rfl,S,L,hin,q⟩:=h
 have hu:=hu_of hr
 obtain ⟨kvs,hk,hks,hkv⟩:=S.name_some (Rc.nameOf l)
 have hnm:=name_in hin
 rw [Rc.stands_in hin,Bool.not_not] at q
 have EN:∀ σ,σ[1]?=some (some (V.ref lo))→Ev (tFld K (tVar 1) "name") σ H (kV (Sum.inr (strOf (Rc.nameOf l)))):=fun σ e=>by
  rw [←hnm]
  exact L.evName T (ev_var e)
 refine ⟨_,pss_cons (ps_if ((pw_or (pt_cmpR op_eq (pe_callB call_len_seq (by rfl) T.n_len PySem.boot_len (pa_cons (pe_fld (pv 0) (by rfl)) pa_nil)) pe_int (nomark _)) (pw_or1 (pt_cmp (pc_dnotin hu (pe_fld (pv 1) (by rfl)) (pe_fld (pv 0) (by rfl))))))).pt (pss_one (ps_ret pe_bl)) pss_nil)
  (pss_one (ps_ret (pe_and (pe_cmpR op_eq (pe_fld (pv 1) rfl) pe_str (nomark _)) (pe_one (pe_not (pe_call G (hr.mono (by decide)) rfl T.may_have_pen.gl T.may_have_pen.fn.kp T.may_have_pen.bd .nil pass0 (pa_cons (pe_ix ix_list (pe_fld (pv 0) rfl) (pe_un un_neg pe_int) (fun _ _=>rfl)) (pa_cons (pe_dget hu (pe_fld (pv 0) rfl) (pe_fld (pv 1) rfl) (fun _ _=>rfl)) pa_nil)))))))),?_⟩
 ((try dsimp only [tSeq,tNext,gName]); apply rd_if; exact (evt_or (evt_test (ev_eq (S.nr (S.evRaces T (ev_var rfl))) ev_c)) fun _=>evt_B (ev_dnotin (EN _ rfl) (S.evBoats T (ev_var rfl)) hk)))
 ·intro h
  rw [dec_zero,hks] at h
  have:=q H (Same.refl H)
  rw [h,Bool.true_or] at this
  exact this
 ·intro h
  rw [dec_zero,hks] at h
  rw [h,Bool.false_or] at q
  rw [Bool.or_eq_false_iff] at h
  have hrc:races c≠[]:=fun z=>by rw [z] at h; cases h.1
  have hc:(boats c).contains (Rc.nameOf l)=true:=by
   have:=h.2
   cases z:(boats c).contains (Rc.nameOf l) with
   | true=>rfl
   | false=>rw [z] at this; cases this
  obtain ⟨rs,x,r,ls,e1,e2,e3,R,e4⟩:=S.last hrc
  rw [e4] at q
  cases ev:valV kvs (Sum.inr (strOf (Rc.nameOf l))) with
  | none=>rw [ev,hc] at hks; cases hks
  | some v =>
   obtain ⟨i,rfl,hi⟩:=hkv v ev
   refine ev_eq (y:=.str "pen") (L.evWord T (ev_var rfl)) ev_c rfl _ ?_
   have ep:decide (V.str (strOf (Rc.lineP l).1)=V.str "pen")=Rc.isPen l:=by rw [is_pen]; cases l <;> rfl
   rw [ep]
   cases hp:Rc.isPen l with
   | false =>
    rw [hp] at q
    exact ⟨false,rfl,iteF (q H (Same.refl H))⟩
   | true =>
    rw [hp,Bool.true_and] at q
    refine ⟨true,rfl,iteT ?_⟩
    refine S.evLast T e1 (ev_var rfl) _ ?_
    refine ev_dget (S.evBoats T (ev_var rfl)) (EN _ rfl) hk ev _ ?_
    exact ⟨x,a.okn,boats c,c.length,ls,i,Rc.nameOf l,rfl,R,hi,fun H' s1=>⟨_,rfl,q H' s1⟩⟩
theorem ok_cant (T:Tx P w K mg):FnOk P w K mg base CX0 3 T.cant_stand.f T.cant_stand.fd ["series","line"] (spCant T):=by
 have G:=ok_cant_in (base:=base) T
 refine T.cant_stand.fn.ok scCant (fun vs H Q E h=>?_) (fun cdv A outer s H vs Q E hr h=>?_)
 ·obtain ⟨a,c,t,lo,na,l,rfl,_⟩:=h
  rfl
 obtain ⟨a,c,t,lo,na,l,rfl,S,L,q⟩:=h
 have F:=S.good.facts
 have q0:=q H (Same.refl H)
 refine ⟨_,pss_cons (ps_if (pt_cmpR op_eq (pe_fld (pv 1) rfl) pe_str (nomark _))
   (pss_one (ps_ret (pe_or (pe_cmpR op_gt (pe_callB call_len_seq (by rfl) T.n_len PySem.boot_len (pa_cons (pe_fld (pv 0) rfl) pa_nil)) pe_int (nomark _)) (pe_one (pe_cmpR op_gt (pe_callB call_len_seq (by rfl) T.n_len PySem.boot_len (pa_cons (pe_fld (pv 0) rfl) pa_nil)) pe_int (nomark _)))))) pss_nil)
  (pss_cons (ps_if (pt_cmpR op_eq (pe_fld (pv 1) rfl) pe_str (nomark _))
   (pss_one (ps_ret (pe_or (pe_cmpR op_eq (pe_callB call_lenD (by rfl) T.n_len PySem.boot_len (pa_cons (pe_fld (pv 0) rfl) pa_nil)) pe_int (nomark _)) (pe_one (pe_cmpR op_gt (pe_callB call_len_seq (by rfl) T.n_len PySem.boot_len (pa_cons (pe_fld (pv 0) rfl) pa_nil)) pe_int (nomark _)))))) pss_nil)
  (pss_cons (ps_if (pt_cmpR op_eq (pe_fld (pv 1) rfl) pe_str (nomark _))
   (pss_one (ps_ret (pe_cmpR op_eq (pe_callB call_lenD (by rfl) T.n_len PySem.boot_len (pa_cons (pe_fld (pv 0) rfl) pa_nil)) pe_int (nomark _)))) pss_nil)
  (pss_one (ps_ret (pe_call G (hr.mono (by decide)) rfl T.boat_line_cant_stand.gl T.boat_line_cant_stand.fn.kp T.boat_line_cant_stand.bd .nil pass0 (pa_cons (pv 0) (pa_cons (pv 1) pa_nil))))))),?_⟩
 ((try dsimp only [tSeq,tNext,gName]); apply rd_if; exact (evt_test (ev_eq (L.evWord T (ev_var rfl)) ev_c)))
 ·intro h
  rw [is_boat] at h
  cases l with
  | boat n =>
   rw [Rc.stands_boat F,Bool.not_not,←dec_pos,←dec_pos] at q0
   exact ev_or (ev_gt (S.no (S.evOuts T (ev_var rfl))) ev_c) (fun _=>ev_gt (S.nr (S.evRaces T (ev_var rfl))) ev_c) _ q0
  | _=>cases h
 intro h1
 ((try dsimp only [tSeq,tNext,gName]); apply rd_if; exact (evt_test (ev_eq (L.evWord T (ev_var rfl)) ev_c)))
 ·intro h
  rw [is_out] at h
  cases l with
  | out r k =>
   rw [Rc.stands_out F,Bool.not_not,←dec_zero,←dec_pos] at q0
   exact ev_or (ev_eq (S.nb (S.evBoats T (ev_var rfl))) ev_c) (fun _=>ev_gt (S.nr (S.evRaces T (ev_var rfl))) ev_c) _ q0
  | _=>cases h
 intro h2
 ((try dsimp only [tSeq,tNext,gName]); apply rd_if; exact (evt_test (ev_eq (L.evWord T (ev_var rfl)) ev_c)))
 ·intro h
  rw [is_race] at h
  cases l with
  | race =>
   rw [Rc.stands_race,Bool.not_not,←dec_zero] at q0
   exact ev_eq (S.nb (S.evBoats T (ev_var rfl))) ev_c rfl _ q0
  | _=>cases h
 intro h3
 rw [is_boat] at h1
 rw [is_out] at h2
 rw [is_race] at h3
 have hin:Rc.inRace l=true:=by
  cases l with
  | boat _=>cases h1
  | out _ _=>cases h2
  | race=>cases h3
  | _=>rfl
 exact ⟨_,rfl,_,rfl,a,c,t,lo,na,l,rfl,S,L,hin,q⟩
end
end Rv
end
section
namespace Rv
open PySem PySem.Spec PyProof.Rows L2
open RgScore (Bytes Name Line Series boats outs races ownOf penOf ascii thisRace stands wrongOf tooMany)
section
variable {P:Program} {w:World} {K:PySem.W.Frag} {mg:Str→Option Value} {base:Heap}
def spOutCl (T:Tx P w K mg):Sp:=fun vs H Q _=>∃ (a:SerAd) (c:Series) (t:Bytes) (lo na:Addr) (r k:Nat),vs=[.ref a.o,.ref lo]∧SerAt T.Race.C T.Series.C H a c t∧LineAt T.Line.C H lo (Rc.lineP (.out r k)) na∧Q (.bl (RgScore.clashes c (.out r k))) H
theorem scOutCl:FnScope ["series","line","before"] ["series","line"] (defScope s_out_clashes):=⟨rfl,rfl,rfl,by decide +kernel,rfl,by decide +kernel,by decide +kernel⟩
theorem ok_out_cl (T:Tx P w K mg):FnOk P w K mg base CX0 1 T.out_clashes.f T.out_clashes.fd ["series","line"] (spOutCl T):=by
 have nd:=scOutCl.nd
 refine T.out_clashes.fn.ok scOutCl (fun vs H Q E h=>?_) (fun cdv A outer s H vs Q E hr h=>?_)
 ·obtain ⟨a,c,t,lo,na,r,k,rfl,_⟩:=h
  rfl
 obtain ⟨a,c,t,lo,na,r,k,rfl,S,L,q⟩:=h
 refine ⟨_,pss_cons (ps_if (pt_cmpR op_eq (pe_callB call_len_seq (by rfl) T.n_len PySem.boot_len (pa_cons (pe_fld (pv 0) rfl) pa_nil)) pe_int (nomark _)) (pss_one (ps_ret pe_bl)) pss_nil)
  (pss_cons (ps_set (i:=2) nd rfl (Or.inl rfl) (pe_ix ix_list (pe_fld (pv 0) rfl) (pe_un un_neg pe_int) (fun _ _=>rfl)))
  (pss_one (ps_ret (pe_or (pe_cmpR op_le (pe_ix ix_list (pe_fld (pv 1) rfl) pe_int (fun _ _=>rfl)) (pe_ix ix_tup (pv 2) pe_int (fun _ _=>rfl)) (nomark _)) (pe_one (pe_cmpR op_lt (pe_ix ix_list (pe_fld (pv 1) rfl) pe_int (fun _ _=>rfl)) (pe_ix ix_tup (pv 2) pe_int (fun _ _=>rfl)) (nomark _))))))),?_⟩
 ((try dsimp only [tSeq,tNext,gName]); apply rd_if; exact (evt_test (ev_eq (S.no (S.evOuts T (ev_var rfl))) ev_c)))
 ·intro h
  rw [dec_zero,decide_eq_true_eq] at h
  have e:RgScore.clashes c (.out r k)=false:=by
   show (match (outs c).getLast? with | some o=>_ | none=>false)=false
   rw [List.length_eq_zero_iff.mp h]
   rfl
  rw [e] at q
  exact q
 ·intro h
  rw [dec_zero,decide_eq_false_iff_not] at h
  have hne:outs c≠[]:=fun z=>h (by rw [z]; rfl)
  have eo:=(List.dropLast_concat_getLast hne).symm
  have hl:=S.hOuts.2.1
  have hne2:a.os≠[]:=fun z=>h (by rw [←hl,z]; rfl)
  have eo2:=(List.dropLast_concat_getLast hne2).symm
  have ht:=S.hOuts.2.2 (a.os.length - 1) (a.os.getLast hne2) ((outs c).getLast hne) (by rw [List.getLast_eq_getElem]; exact List.getElem?_eq_getElem _) (by rw [List.getLast_eq_getElem,hl]; exact List.getElem?_eq_getElem _)
  have e:RgScore.clashes c (.out r k)=(decide ((r:Int)≤(((outs c).getLast hne).1:Int)) || decide ((k:Int) < (((outs c).getLast hne).2:Int))):=by
   show (match (outs c).getLast? with | some o=>decide (r≤o.1) || decide (k < o.2) | none=>false)=_
   rw [List.getLast?_eq_some_getLast hne]
   show (decide (r≤((outs c).getLast hne).1) || decide (k < ((outs c).getLast hne).2))=_
   rw [dec_le]
   congr 1
   rw [Bool.eq_iff_iff,decide_eq_true_eq,decide_eq_true_eq]
   omega
  rw [e] at q
  have EV:∀ σ,σ[0]?=some (some (V.ref a.o))→Ev (tOp (rIxL K) (tFld K (tVar 0) "outs") (tUn (rU fun i=>.int (-i)) (tC (.int 1)))) σ H (.ref (a.os.getLast hne2)):=fun σ e=>by
   refine ev_ixL (S.evOuts T (ev_var e)) (ev_neg ev_c) (SqL.of S.hOuts.1) ?_
   conv=>lhs; rw [eo2]
   rw [List.map_append]
   exact atI_last _ _
  refine EV _ rfl _ ?_
  exact ev_or (ev_le (i:=(r:Nat)) (ev_ixL (L.evNums T (ev_var rfl)) ev_c (SqL.of L.nums) (at_ix (j:=0) rfl rfl)) (ev_ixT (ev_var rfl) ev_c (SqT.of ht) (at_ix (j:=0) rfl rfl))) (fun _=>ev_lt (i:=(k:Nat)) (ev_ixL (L.evNums T (ev_var rfl)) ev_c (SqL.of L.nums) (at_ix (j:=1) rfl rfl)) (ev_ixT (ev_var rfl) ev_c (SqT.of ht) (at_ix (j:=1) rfl rfl))) _ q
def spInCl (T:Tx P w K mg):Sp:=fun vs H Q _=>∃ (a:SerAd) (c:Series) (t:Bytes) (lo na:Addr) (l:Line),vs=[.ref a.o,.ref lo]∧SerAt T.Race.C T.Series.C H a c t∧LineAt T.Line.C H lo (Rc.lineP l) na∧Rc.inRace l=true∧stands c l=true∧Q (.bl (Rc.clashIn c l)) H
theorem scInCl:FnScope ["series","line","race","boat"] ["series","line"] (defScope s_boat_line_clashes):=⟨rfl,rfl,rfl,by decide +kernel,rfl,by decide +kernel,by decide +kernel⟩
theorem stands_facts {c:Series} {l:Line} (hin:Rc.inRace l=true) (h:stands c l=true):races c≠[]∧(boats c).contains (Rc.nameOf l)=true:=by
 rw [Rc.stands_in hin] at h
 cases e1:decide ((races c).length=0) with
 | true=>rw [e1] at h; cases h
 | false =>
  cases e2:(boats c).contains (Rc.nameOf l) with
  | false=>rw [e1,e2] at h; cases h
  | true=>exact ⟨fun z=>(by rw [z] at e1; cases e1),rfl⟩
theorem ResV.some_iff {ok:Addr→Prop} {H:Hp} {v:Option V} {l:Option Line} (h:ResV ok H v l):v.isSome=l.isSome:=by
 cases v <;> cases l <;> first | rfl | exact h.elim
theorem SerAt.line_at (T:Tx P w K mg) {H:Hp} {a:SerAd} {c:Series} {t:Bytes} {l:Line} (S:SerAt T.Race.C T.Series.C H a c t) (hin:Rc.inRace l=true) (h:stands c l=true) :
  ∃ (kvs:List (Key×V)) (i:Nat) (rs:List RaceAd) (x:RaceAd) (r:List (List Line)) (ls:List Line),H a.bd=some (.dK kvs)∧valV kvs (Sum.inr (strOf (Rc.nameOf l)))=some (natV i)∧(boats c)[i]?=some (Rc.nameOf l)∧a.rs=rs++[x]∧races c=r++[ls]∧rs.length=r.length∧RaceAt T.Race.C a.okn H (boats c) c.length ls x∧thisRace c=ls:=by
 obtain ⟨h1,h2⟩:=stands_facts hin h
 obtain ⟨kvs,hk,hks,hkv⟩:=S.name_some (Rc.nameOf l)
 cases ev:valV kvs (Sum.inr (strOf (Rc.nameOf l))) with
 | none=>rw [ev,h2] at hks; cases hks
 | some v =>
  obtain ⟨i,rfl,hi⟩:=hkv v ev
  obtain ⟨rs,x,r,ls,e1,e2,e3,R,e4⟩:=S.last h1
  exact ⟨kvs,i,rs,x,r,ls,hk,ev,hi,e1,e2,e3,R,e4⟩
theorem ok_in_cl (T:Tx P w K mg):FnOk P w K mg base CX0 1 T.boat_line_clashes.f T.boat_line_clashes.fd ["series","line"] (spInCl T):=by
 have nd:=scInCl.nd
 refine T.boat_line_clashes.fn.ok scInCl (fun vs H Q E h=>?_) (fun cdv A outer s H vs Q E hr h=>?_)
 ·obtain ⟨a,c,t,lo,na,l,rfl,_⟩:=h
  rfl
 obtain ⟨a,c,t,lo,na,l,rfl,S,L,hin,hst,q⟩:=h
 have hu:=hu_of hr
 obtain ⟨kvs,i,rs,x,r,ls,hk,ev,hi,e1,e2,e3,R,e4⟩:=S.line_at T hin hst
 obtain ⟨dx,ho⟩:=R.obj
 obtain ⟨kr,hkr,_,hres⟩:=R.res
 obtain ⟨kp,hkp,_,hpen⟩:=R.pen
 have h1:=(hres i _ hi).some_iff
 have h2:=hpen i _ hi
 have hnm:=name_in hin
 have EN:∀ σ,σ[1]?=some (some (V.ref lo))→Ev (tFld K (tVar 1) "name") σ H (kV (Sum.inr (strOf (Rc.nameOf l)))):=fun σ e=>by
  rw [←hnm]
  exact L.evName T (ev_var e)
 refine ⟨_,pss_cons (ps_set (i:=2) nd rfl (Or.inl rfl) (pe_ix ix_list (pe_fld (pv 0) rfl) (pe_un un_neg pe_int) (fun _ _=>rfl)))
  (pss_cons (ps_set (i:=3) nd rfl (Or.inl rfl) (pe_dget hu (pe_fld (pv 0) rfl) (pe_fld (pv 1) rfl) (fun _ _=>rfl)))
  (pss_cons (ps_if (pt_cmpR op_eq (pe_fld (pv 1) rfl) pe_str (nomark _)) (pss_one (ps_ret (pe_cmp (pc_din hu (pv 3) (pe_fld (pv 2) rfl))))) pss_nil)
  (pss_cons (ps_if (pt_cmp (pc_din hu (pv 3) (pe_fld (pv 2) rfl))) (pss_one (ps_ret pe_bl)) pss_nil)
  (pss_one (ps_ret (pe_and (pe_cmpR op_eq (pe_fld (pv 1) rfl) pe_str (nomark _)) (pe_one (pe_cmpR op_gt (pe_op op_sub (pe_op op_add (pe_ix ix_list (pe_fld (pv 1) rfl) pe_int (fun _ _=>rfl)) (pe_ix ix_list (pe_fld (pv 1) rfl) pe_int (fun _ _=>rfl))) pe_int) (pe_callB call_lenD (by rfl) T.n_len PySem.boot_len (pa_cons (pe_fld (pv 0) rfl) pa_nil)) (nomark _))))))))),?_⟩
 dsimp only [tSeq,tNext,gName]
 dsimp only [tAsg]
 have EL:Ev (tOp (rIxL K) (tFld K (tVar 0) "races") (tUn (rU fun i=>.int (-i)) (tC (.int 1)))) (L2.start ["series","line","race","boat"] [V.ref a.o,V.ref lo]) H (.ref x.o):=S.evLast T e1 (ev_var rfl)
 refine EL _ ?_
 have EB:Ev (tDGet (tFld K (tVar 0) "boats") (tFld K (tVar 1) "name")) [some (V.ref a.o),some (V.ref lo),some (V.ref x.o),none] H (natV i):=ev_dget (S.evBoats T (ev_var rfl)) (EN _ rfl) hk ev
 refine EB _ ?_
 ((try dsimp only [tSeq,tNext,gName]); apply rd_if; exact (evt_test (ev_eq (L.evWord T (ev_var rfl)) ev_c)))
 ·intro h
  rw [is_pen] at h
  cases l with
  | pen n k =>
   have e:Rc.clashIn c (.pen n k)=(valV kp (Sum.inl (i:Int))).isSome:=by
    show (penOf (thisRace c) n).isSome=_
    rw [h2,e4,Option.isSome_map]
    rfl
   rw [e] at q
   exact ev_din (k:=Sum.inl (i:Int)) (ev_var rfl) (ev_fld (ev_var rfl) ho T.Race.cl T.a_Race_pens (race_pens _ _)) hkp _ q
  | _=>cases h
 intro hp
 rw [is_pen] at hp
 ((try dsimp only [tSeq,tNext,gName]); apply rd_if; exact (evt_B (ev_din (k:=Sum.inl (i:Int)) (ev_var rfl) (ev_fld (ev_var rfl) ho T.Race.cl T.a_Race_results (race_res _ _)) hkr)))
 ·intro h
  rw [h1] at h
  have e:Rc.clashIn c l=true:=by
   unfold Rc.clashIn
   rw [e4]
   cases l with
   | pen n k=>cases hp
   | place n p s =>
    show ((ownOf ls n).isSome || decide ((boats c).length < p + s - 1))=true
    rw [show (ownOf ls n).isSome=true from h]
    rfl
   | _=>exact h
  rw [e] at q
  exact q
 ·intro h
  rw [h1] at h
  cases l with
  | place n p s =>
   have e:Rc.clashIn c (.place n p s)=(true && decide (((boats c).length:Int) < (p:Int) + (s:Int) - 1)):=by
    show ((ownOf (thisRace c) n).isSome || decide ((boats c).length < p + s - 1))=_
    rw [e4,show (ownOf ls n).isSome=false from h,Bool.false_or,Bool.true_and,Bool.eq_iff_iff,decide_eq_true_eq,decide_eq_true_eq]
    omega
   rw [e] at q
   have ew:decide (V.str (strOf (Rc.lineP (Line.place n p s)).1)=V.str "place")=true:=by rw [is_place]
   have:=ev_and (b:=decide (V.str (strOf (Rc.lineP (Line.place n p s)).1)=V.str "place")) (ta:=tOp rEq (tFld K (tVar 1) "word") (tC (.str "place"))) (tb:=tOp (rI0 fun i j=>.bl (decide (j < i))) (tOp (rI0 fun i j=>.int (i - j)) (tOp (rI0 fun i j=>.int (i + j)) (tOp (rIxL K) (tFld K (tVar 1) "numbers") (tC (.int 0))) (tOp (rIxL K) (tFld K (tVar 1) "numbers") (tC (.int 1)))) (tC (.int 1))) (tCB (fun xs H Q=>∃ a kvs,xs=[V.ref a]∧H a=some (.dK kvs)∧Q (.int kvs.length) H) (tCons (tFld K (tVar 0) "boats") tNil))) (σ:=[some (V.ref a.o),some (V.ref lo),some (V.ref x.o),some (natV i)]) (ev_eq (y:=.str "place") (L.evWord T (ev_var rfl)) ev_c) (fun _=>ev_gt (ev_sub (ev_add (i:=(p:Nat)) (j:=(s:Nat)) (ev_ixL (L.evNums T (ev_var rfl)) ev_c (SqL.of L.nums) (at_ix (j:=0) rfl rfl)) (ev_ixL (L.evNums T (ev_var rfl)) ev_c (SqL.of L.nums) (at_ix (j:=1) rfl rfl))) ev_c) (S.nb (S.evBoats T (ev_var rfl))))
   rw [ew] at this
   exact this _ q
  | pen n k=>cases hp
  | boat n=>cases hin
  | out r k=>cases hin
  | race=>cases hin
  | miss n =>
   have e:Rc.clashIn c (.miss n)=false:=by
    show (ownOf (thisRace c) n).isSome=false
    rw [e4]
    exact h
   rw [e] at q
   refine ev_eq (y:=.str "place") (L.evWord T (ev_var rfl)) ev_c rfl _ ?_
   rw [is_place]
   exact ⟨_,rfl,iteF q⟩
  | dis n =>
   have e:Rc.clashIn c (.dis n)=false:=by
    show (ownOf (thisRace c) n).isSome=false
    rw [e4]
    exact h
   rw [e] at q
   refine ev_eq (y:=.str "place") (L.evWord T (ev_var rfl)) ev_c rfl _ ?_
   rw [is_place]
   exact ⟨_,rfl,iteF q⟩
  | avg n =>
   have e:Rc.clashIn c (.avg n)=false:=by
    show (ownOf (thisRace c) n).isSome=false
    rw [e4]
    exact h
   rw [e] at q
   refine ev_eq (y:=.str "place") (L.evWord T (ev_var rfl)) ev_c rfl _ ?_
   rw [is_place]
   exact ⟨_,rfl,iteF q⟩
def spCl (T:Tx P w K mg):Sp:=fun vs H Q _=>∃ (a:SerAd) (c:Series) (t:Bytes) (lo na:Addr) (l:Line),vs=[.ref a.o,.ref lo]∧SerAt T.Race.C T.Series.C H a c t∧LineAt T.Line.C H lo (Rc.lineP l) na∧stands c l=true∧Q (.bl (RgScore.clashes c l)) H
theorem scCl:FnScope ["series","line"] ["series","line"] (defScope s_clashes):=⟨rfl,rfl,rfl,by decide +kernel,rfl,by decide +kernel,by decide +kernel⟩
theorem ok_cl (T:Tx P w K mg):FnOk P w K mg base CX0 2 T.clashes.f T.clashes.fd ["series","line"] (spCl T):=by
 have G1:=ok_out_cl (base:=base) T
 have G2:=ok_in_cl (base:=base) T
 refine T.clashes.fn.ok scCl (fun vs H Q E h=>?_) (fun cdv A outer s H vs Q E hr h=>?_)
 ·obtain ⟨a,c,t,lo,na,l,rfl,_⟩:=h
  rfl
 obtain ⟨a,c,t,lo,na,l,rfl,S,L,hst,q⟩:=h
 have hu:=hu_of hr
 refine ⟨_,pss_cons (ps_if (pt_cmpR op_eq (pe_fld (pv 1) rfl) pe_str (nomark _)) (pss_one (ps_ret (pe_cmp (pc_din hu (pe_fld (pv 1) rfl) (pe_fld (pv 0) rfl))))) pss_nil)
  (pss_cons (ps_if (pt_cmpR op_eq (pe_fld (pv 1) rfl) pe_str (nomark _)) (pss_one (ps_ret (pe_call G1 (hr.mono (by decide)) rfl T.out_clashes.gl T.out_clashes.fn.kp T.out_clashes.bd .nil pass0 (pa_cons (pv 0) (pa_cons (pv 1) pa_nil))))) pss_nil)
  (pss_cons (ps_if (pt_cmpR op_eq (pe_fld (pv 1) rfl) pe_str (nomark _)) (pss_one (ps_ret pe_bl)) pss_nil)
  (pss_one (ps_ret (pe_call G2 (hr.mono (by decide)) rfl T.boat_line_clashes.gl T.boat_line_clashes.fn.kp T.boat_line_clashes.bd .nil pass0 (pa_cons (pv 0) (pa_cons (pv 1) pa_nil))))))),?_⟩
 ((try dsimp only [tSeq,tNext,gName]); apply rd_if; exact (evt_test (ev_eq (L.evWord T (ev_var rfl)) ev_c)))
 ·intro h
  rw [is_boat] at h
  cases l with
  | boat n =>
   obtain ⟨kvs,hk,hks,_⟩:=S.name_some n
   have e:RgScore.clashes c (.boat n)=(valV kvs (Sum.inr (strOf n))).isSome:=hks.symm
   rw [e] at q
   exact ev_din (k:=Sum.inr (strOf n)) (L.evName T (ev_var rfl)) (S.evBoats T (ev_var rfl)) hk _ q
  | _=>cases h
 intro h1
 ((try dsimp only [tSeq,tNext,gName]); apply rd_if; exact (evt_test (ev_eq (L.evWord T (ev_var rfl)) ev_c)))
 ·intro h
  rw [is_out] at h
  cases l with
  | out r k=>exact ⟨_,rfl,_,rfl,a,c,t,lo,na,r,k,rfl,S,L,q⟩
  | _=>cases h
 intro h2
 ((try dsimp only [tSeq,tNext,gName]); apply rd_if; exact (evt_test (ev_eq (L.evWord T (ev_var rfl)) ev_c)))
 ·intro h
  rw [is_race] at h
  cases l with
  | race=>exact q
  | _=>cases h
 intro h3
 rw [is_boat] at h1
 rw [is_out] at h2
 rw [is_race] at h3
 have hin:Rc.inRace l=true:=by
  cases l with
  | boat _=>cases h1
  | out _ _=>cases h2
  | race=>cases h3
  | _=>rfl
 rw [Rc.clash_in hin] at q
 exact ⟨_,rfl,_,rfl,a,c,t,lo,na,l,rfl,S,L,hin,hst,q⟩
theorem race_no {l:Line} (h:l≠.race):decide (V.str (strOf (Rc.lineP l).1)=V.str "race")=false:=by
 rw [is_race]
 cases l <;> first | rfl | exact absurd rfl h
def spMuch (T:Tx P w K mg):Sp:=fun vs H Q _=>∃ (a:SerAd) (c:Series) (t:Bytes) (lo na:Addr) (l:Line),vs=[.ref a.o,.ref lo]∧SerAt T.Race.C T.Series.C H a c t∧LineAt T.Line.C H lo (Rc.lineP l) na∧Q (.bl (tooMany c l)) H
theorem scMuch:FnScope ["series","line"] ["series","line"] (defScope s_too_much):=⟨rfl,rfl,rfl,by decide +kernel,rfl,by decide +kernel,by decide +kernel⟩
theorem ok_much (T:Tx P w K mg):FnOk P w K mg base CX0 1 T.too_much.f T.too_much.fd ["series","line"] (spMuch T):=by
 refine T.too_much.fn.ok scMuch (fun vs H Q E h=>?_) (fun cdv A outer s H vs Q E hr h=>?_)
 ·obtain ⟨a,c,t,lo,na,l,rfl,_⟩:=h
  rfl
 obtain ⟨a,c,t,lo,na,l,rfl,S,L,q⟩:=h
 have F:=S.good.facts
 refine ⟨_,pss_cons (ps_if (pt_cmpR op_eq (pe_fld (pv 1) rfl) pe_str (nomark _)) (pss_one (ps_ret (pe_cmpR op_ge (pe_callB call_lenD (by rfl) T.n_len PySem.boot_len (pa_cons (pe_fld (pv 0) rfl) pa_nil)) (pe_gi T.g_MOST_BOATS rfl) (nomark _)))) pss_nil)
  (pss_cons (ps_if (pt_cmpR op_eq (pe_fld (pv 1) rfl) pe_str (nomark _)) (pss_one (ps_ret (pe_cmpR op_ge (pe_callB call_len_seq (by rfl) T.n_len PySem.boot_len (pa_cons (pe_fld (pv 0) rfl) pa_nil)) (pe_gi T.g_MOST_OUTS rfl) (nomark _)))) pss_nil)
  (pss_one (ps_ret (pe_and (pe_cmpR op_eq (pe_fld (pv 1) rfl) pe_str (nomark _)) (pe_one (pe_cmpR op_ge (pe_callB call_len_seq (by rfl) T.n_len PySem.boot_len (pa_cons (pe_fld (pv 0) rfl) pa_nil)) (pe_gi T.g_MOST_RACES rfl) (nomark _))))))),?_⟩
 ((try dsimp only [tSeq,tNext,gName]); apply rd_if; exact (evt_test (ev_eq (L.evWord T (ev_var rfl)) ev_c)))
 ·intro h
  rw [is_boat] at h
  cases l with
  | boat n =>
   rw [Rc.many_boat F,←dec_le] at q
   exact ev_ge (S.nb (S.evBoats T (ev_var rfl))) ev_c _ q
  | _=>cases h
 intro h1
 ((try dsimp only [tSeq,tNext,gName]); apply rd_if; exact (evt_test (ev_eq (L.evWord T (ev_var rfl)) ev_c)))
 ·intro h
  rw [is_out] at h
  cases l with
  | out r k =>
   rw [Rc.many_out F,←dec_le] at q
   exact ev_ge (S.no (S.evOuts T (ev_var rfl))) ev_c _ q
  | _=>cases h
 intro h2
 rw [is_boat] at h1
 rw [is_out] at h2
 refine ev_eq (y:=.str "race") (L.evWord T (ev_var rfl)) ev_c rfl _ ?_
 by_cases hr':l=.race
 ·subst hr'
  rw [is_race]
  rw [Rc.many_race F,←dec_le] at q
  exact ⟨true,rfl,iteT (ev_ge (S.nr (S.evRaces T (ev_var rfl))) ev_c _ q)⟩
 ·have hin:Rc.inRace l=true:=by
   cases l with
   | boat _=>cases h1
   | out _ _=>cases h2
   | race=>exact absurd rfl hr'
   | _=>rfl
  rw [race_no hr']
  rw [Rc.many_in F hin] at q
  exact ⟨false,rfl,iteF q⟩
def spWhy (T:Tx P w K mg):Sp:=fun vs H Q _=>∃ (a:SerAd),(vs=[.ref a.o,.non]∧Q (.int 1) H)∨∃ (c:Series) (t:Bytes) (lo na:Addr) (l:Line),vs=[.ref a.o,.ref lo]∧SerAt T.Race.C T.Series.C H a c t∧LineAt T.Line.C H lo (Rc.lineP l) na∧∀ H',Same H H'→Q (natV (wrongOf c l)) H'
theorem scWhy:FnScope ["series","line"] ["series","line"] (defScope s_why_wrong):=⟨rfl,rfl,rfl,by decide +kernel,rfl,by decide +kernel,by decide +kernel⟩
theorem ok_why (T:Tx P w K mg):FnOk P w K mg base CX0 4 T.why_wrong.f T.why_wrong.fd ["series","line"] (spWhy T):=by
 have G1:=ok_cant (base:=base) T
 have G2:=ok_cl (base:=base) T
 have G3:=ok_much (base:=base) T
 refine T.why_wrong.fn.ok scWhy (fun vs H Q E h=>?_) (fun cdv A outer s H vs Q E hr h=>?_)
 ·obtain ⟨a,⟨rfl,_⟩ | ⟨c,t,lo,na,l,rfl,_⟩⟩:=h <;> rfl
 refine ⟨_,pss_cons (ps_if (pt_cmpR op_isN (pv 1) pe_non (nomark _)) (pss_one (ps_ret (pe_gi T.g_NOT_FORMED rfl))) pss_nil)
  (pss_cons (ps_if (pt_val (pe_call G1 (hr.mono (by decide)) rfl T.cant_stand.gl T.cant_stand.fn.kp T.cant_stand.bd .nil pass0 (pa_cons (pv 0) (pa_cons (pv 1) pa_nil)))) (pss_one (ps_ret (pe_gi T.g_CANT_STAND rfl))) pss_nil)
  (pss_cons (ps_if (pt_val (pe_call G2 (hr.mono (by decide)) rfl T.clashes.gl T.clashes.fn.kp T.clashes.bd .nil pass0 (pa_cons (pv 0) (pa_cons (pv 1) pa_nil)))) (pss_one (ps_ret (pe_gi T.g_CLASHES rfl))) pss_nil)
  (pss_cons (ps_if (pt_val (pe_call G3 (hr.mono (by decide)) rfl T.too_much.gl T.too_much.fn.kp T.too_much.bd .nil pass0 (pa_cons (pv 0) (pa_cons (pv 1) pa_nil)))) (pss_one (ps_ret (pe_gi T.g_TOO_MUCH rfl))) pss_nil)
  (pss_one (ps_ret (pe_gi T.g_RIGHT rfl)))))),?_⟩
 obtain ⟨a,⟨rfl,q⟩ | ⟨c,t,lo,na,l,rfl,S,L,q⟩⟩:=h
 ·exact rd_if (b:=decide (V.non=V.non)) (evt_test (ev_isN (ev_var rfl) ev_c)) (fun _=>q) fun h=>(by cases h)
 refine rd_if (b:=decide (V.ref lo=V.non)) (evt_test (ev_isN (ev_var rfl) ev_c)) (fun h=>nomatch of_decide_eq_true h) fun _=>?_
 refine ⟨_,rfl,_,rfl,a,c,t,lo,na,l,rfl,S,L,fun H1 s1=>⟨_,rfl,?_⟩⟩
 have q1:=q H1 s1
 have S1:=S.keep (Kp.of s1)
 have L1:=L.keep (Kp.of s1)
 unfold wrongOf at q1
 cases hs:stands c l with
 | false =>
  rw [hs,if_pos rfl] at q1
  exact iteT q1
 | true =>
  rw [hs,if_neg (by decide)] at q1
  refine iteF ?_
  refine ⟨_,rfl,_,rfl,a,c,t,lo,na,l,rfl,S1,L1,hs,_,rfl,?_⟩
  cases hc:RgScore.clashes c l with
  | true =>
   rw [hc,if_pos rfl] at q1
   exact iteT q1
  | false =>
   rw [hc,if_neg (by decide)] at q1
   refine iteF ?_
   refine ⟨_,rfl,_,rfl,a,c,t,lo,na,l,rfl,S1,L1,_,rfl,?_⟩
   cases hm:tooMany c l with
   | true =>
    rw [hm,if_pos rfl] at q1
    exact iteT q1
   | false =>
    rw [hm,if_neg (by decide)] at q1
    exact iteF q1
end
end Rv
end
section
namespace Rv
open PySem PySem.Spec PyProof.Rows L2
open RgScore (Bytes Name Line Series boats outs races ownOf penOf ascii thisRace stands wrongOf tooMany)
def KeepBut (p:Addr) (H H':Hp):Prop:=∀ b o,H b=some o→b≠p→H' b=some o
theorem KeepBut.refl (p:Addr) (H:Hp):KeepBut p H H:=fun _ _ e _=>e
theorem KeepBut.put {p q:Addr} {H H':Hp} {o:HO} (k:KeepBut p H H') (h:q=p∨H q=none):KeepBut p H (upd H' q o):=fun b u e hb=>by
 have:b≠q:=by
  rcases h with h | h
  ·rw [h]; exact hb
  ·exact ne_of_none e h
 rw [upd_ne this]
 exact k b u e hb
theorem KeepBut.free {p:Addr} {H H':Hp} (k:KeepBut p H H') (hp:∃ o,H' p=some o) {b:Addr} (h:H' b=none):H b=none:=by
 cases e:H b with
 | none=>rfl
 | some o =>
  by_cases q:b=p
  ·obtain ⟨o',hp⟩:=hp
   rw [q,hp] at h
   cases h
  ·rw [k b o e q] at h
   cases h
section
variable {P:Program} {w:World} {K:PySem.W.Frag} {mg:Str→Option Value} {base:Heap}
theorem race_put (a b:V):putF "pens" b (putF "results" a [])=raceF a b:=by
 simp only [putF]
 rw [if_neg (by decide)]
 rfl
theorem race_put1 (a b c:V):putF "results" c (raceF a b)=raceF c b:=by
 unfold raceF
 simp only [putF]
 rw [if_pos trivial]
theorem race_put2 (a b c:V):putF "pens" c (raceF a b)=raceF a c:=by
 unfold raceF
 simp only [putF]
 rw [if_neg (by decide),if_pos trivial]
def spRaceInit (C:Addr):Sp:=fun vs H Q _=>∃ (p dx:Addr),vs=[.ref p]∧H p=some (.ins C dx [])∧∀ (rd pd:Addr) (H':Hp),H rd=none→H pd=none→rd≠pd→H' p=some (.ins C dx (raceF (.ref rd) (.ref pd)))→H' rd=some (.dK [])→H' pd=some (.dK [])→KeepBut p H H'→Q .non H'
theorem scRaceInit:FnScope ["self"] ["self"] (defScope s_Race_init):=⟨rfl,rfl,rfl,by decide +kernel,rfl,by decide +kernel,by decide +kernel⟩
theorem ok_race_init (T:Tx P w K mg):FnOk P w K mg base CX0 1 T.Race.f T.Race.fd ["self"] (spRaceInit T.Race.C):=by
 refine T.Race.fn.ok scRaceInit (fun vs H Q E h=>?_) (fun cdv A outer s H vs Q E hr h=>?_)
 ·obtain ⟨p,dx,rfl,_⟩:=h
  rfl
 obtain ⟨p,dx,rfl,hp,q⟩:=h
 refine ⟨_,pss_cons (ps_fld (pv 0) pe_dnewK rfl) (pss_one (ps_fld (pv 0) pe_dnewK rfl)),?_⟩
 intro rd hrd
 have n1:p≠rd:=ne_of_none hp hrd
 refine ⟨_,rfl,p,T.Race.C,dx,_,rfl,by rw [upd_ne n1]; exact hp,T.Race.cl,T.a_Race_results,(by show 0 < 1000; decide),?_⟩
 intro pd hpd
 have n2:p≠pd:=ne_of_none (H:=upd (upd H rd (.dK [])) p _) upd_same hpd
 have n3:rd≠pd:=ne_of_none (H:=upd (upd H rd (.dK [])) p _) (by rw [upd_ne (Ne.symm n1)]; exact upd_same) hpd
 refine ⟨_,rfl,p,T.Race.C,dx,_,rfl,by rw [upd_ne n2]; exact upd_same,T.Race.cl,T.a_Race_pens,(by show 1 < 1000; decide),?_⟩
 have hpd0:H pd=none:=by
  rw [upd_ne (Ne.symm n2),upd_ne (Ne.symm n3)] at hpd
  exact hpd
 refine q rd pd _ hrd hpd0 n3 ?_ ?_ ?_ ?_
 ·rw [race_put]
  exact upd_same
 ·rw [upd_ne (Ne.symm n1),upd_ne n3,upd_ne (Ne.symm n1)]
  exact upd_same
 ·rw [upd_ne (Ne.symm n2)]
  exact upd_same
 ·exact ((((KeepBut.refl p H).put (.inr hrd)).put (.inl rfl)).put (.inr hpd0)).put (.inl rfl)
structure RaceNew (C:Addr) (H H':Hp) (x:RaceAd):Prop where
 same:Same H H'
 o:H x.o=none
 rd:H x.rd=none
 pd:H x.pd=none
 ne:x.rd≠x.pd
 obj:∃ dx,H' x.o=some (.ins C dx (raceF (.ref x.rd) (.ref x.pd)))
 hr:H' x.rd=some (.dK [])
 hp:H' x.pd=some (.dK [])
theorem made_race {C:Addr} {H:Hp} {σ:L2.St} {Q:VK} {E:XK} (h:∀ (x:RaceAd) (H':Hp),RaceNew C H H' x→Q (.ref x.o) H'):tMake C (spRaceInit C) [] E tNil σ H Q:=by
 intro x dx hx hdx hne
 refine ⟨x,dx,rfl,upd_same,fun rd pd H' hrd hpd hn h1 h2 h3 k=>⟨rfl,?_⟩⟩
 have free:∀ b,(upd (upd H dx (.own x)) x (.ins C dx [])) b=none→H b=none:=fun b e=>by
  have b1:b≠x:=fun z=>by rw [z,upd_same] at e; cases e
  rw [upd_ne b1] at e
  have b2:b≠dx:=fun z=>by rw [z,upd_same] at e; cases e
  rw [upd_ne b2] at e
  exact e
 exact h ⟨x,rd,pd⟩ H' ⟨Same.made hx hdx k,hx,free rd hrd,free pd hpd,hn,⟨dx,h1⟩,h2,h3⟩
theorem RaceAt.ok {C:Addr} {ok ok':Addr→Prop} {H:Hp} {bs:List Name} {m:Nat} {ls:List Line} {x:RaceAd} (h:RaceAt C ok H bs m ls x) (f:∀ na xs,ok na→H na=some (.lst xs)→ok' na):RaceAt C ok' H bs m ls x:=by
 obtain ⟨h1,⟨k1,h2,h3,h4⟩,h5,h6⟩:=h
 refine ⟨h1,⟨k1,h2,h3,fun i n e=>?_⟩,h5,h6⟩
 have:=h4 i n e
 cases ev:valV k1 (Sum.inl (i:Int)) with
 | none=>cases el:ownOf ls n with
  | none=>trivial
  | some l=>rw [ev,el] at this; exact this
 | some v=>cases el:ownOf ls n with
  | none=>rw [ev,el] at this; exact this
  | some l =>
   rw [ev,el] at this
   obtain ⟨t,na,e,g1,g2,g3⟩:=this
   exact ⟨t,na,e,g1,g2,f na _ g3 g2⟩
def spRaceCopy (C:Addr):Sp:=fun vs H Q _=>∃ (x:RaceAd) (ok:Addr→Prop) (bs:List Name) (m:Nat) (ls:List Line),vs=[.ref x.o]∧RaceAt C ok H bs m ls x∧∀ (y:RaceAd) (H':Hp),Same H H'→H y.o=none→H y.rd=none→H y.pd=none→RaceAt C ok H' bs m ls y→Q (.ref y.o) H'
theorem scRaceCopy:FnScope ["race","twin"] ["race"] (defScope s_race_copy):=⟨rfl,rfl,rfl,by decide +kernel,rfl,by decide +kernel,by decide +kernel⟩
theorem ok_race_copy (T:Tx P w K mg):FnOk P w K mg base CX0 3 T.race_copy.f T.race_copy.fd ["race"] (spRaceCopy T.Race.C):=by
 have nd:=scRaceCopy.nd
 have G:=ok_race_init (base:=base) T
 refine T.race_copy.fn.ok scRaceCopy (fun vs H Q E h=>?_) (fun cdv A outer s H vs Q E hr h=>?_)
 ·obtain ⟨x,ok,bs,m,ls,rfl,_⟩:=h
  rfl
 obtain ⟨x,ok,bs,m,ls,rfl,R,q⟩:=h
 refine ⟨_,pss_cons (ps_set (i:=1) nd rfl (Or.inl rfl) (pe_make0 T.Race.mkx G (hr.mono (by decide)) rfl T.Race.gl T.Race.bd .nil pass0))
  (pss_cons (ps_fld (pv 1) (pe_callTy call_dict_of (by rfl) T.n_dict PyProof.Rows.boot_dict (pa_cons (pe_fld (pv 0) rfl) pa_nil)) rfl)
  (pss_cons (ps_fld (pv 1) (pe_callTy call_dict_of (by rfl) T.n_dict PyProof.Rows.boot_dict (pa_cons (pe_fld (pv 0) rfl) pa_nil)) rfl)
  (pss_one (ps_ret (pv 1))))),?_⟩
 dsimp only [tSeq,tAsg,gName]
 refine made_race fun y H1 N=>?_
 obtain ⟨dy,hy⟩:=N.obj
 have R1:=R.keep (Kp.of N.same)
 obtain ⟨⟨dx,ho⟩,⟨k1,hk1,hm1,hr1⟩,⟨k2,hk2,hm2,hr2⟩,hne⟩:=R
 have ho1:=N.same _ _ ho
 have hk11:=N.same _ _ hk1
 have hk21:=N.same _ _ hk2
 have nxy:x.o≠y.o:=ne_of_none ho N.o
 refine ⟨_,rfl,x.o,_,dx,_,_,rfl,ho1,T.Race.cl,T.a_Race_results,race_res _ _,x.rd,k1,rfl,hk11,fun d1 hd1=>?_⟩
 have e1:d1≠y.o:=(ne_of_none hy hd1).symm
 refine ⟨_,rfl,y.o,_,dy,_,rfl,by rw [upd_ne (Ne.symm e1)]; exact hy,T.Race.cl,T.a_Race_results,(by show 2 < 1000; decide),?_⟩
 rw [race_put1]
 have hd1H:H d1=none:=N.same.free hd1
 have s2:Same H (upd (upd H1 d1 (.dK k1)) y.o (.ins T.Race.C dy (raceF (.ref d1) (.ref y.pd)))):=(N.same.put hd1H).put N.o
 refine ⟨_,rfl,x.o,_,dx,_,_,rfl,s2 _ _ ho,T.Race.cl,T.a_Race_pens,race_pens _ _,x.pd,k2,rfl,s2 _ _ hk2,fun d2 hd2=>?_⟩
 have e2:d2≠y.o:=fun z=>by rw [z,upd_same] at hd2; cases hd2
 have e3:d2≠d1:=fun z=>by rw [z,upd_ne e1,upd_same] at hd2; cases hd2
 refine ⟨_,rfl,y.o,_,dy,_,rfl,by rw [upd_ne (Ne.symm e2)]; exact upd_same,T.Race.cl,T.a_Race_pens,(by show 2 < 1000; decide),?_⟩
 rw [race_put2]
 have hd2H:H d2=none:=s2.free hd2
 have s3:=(s2.put (o:=.dK k2) hd2H).put (o:=.ins T.Race.C dy (raceF (.ref d1) (.ref d2))) N.o
 refine ⟨_,rfl,?_⟩
 refine q ⟨y.o,d1,d2⟩ _ s3 N.o hd1H hd2H ⟨⟨dy,upd_same⟩,⟨k1,?_,hm1,fun i n e=>(hr1 i n e).keep (Kp.of s3)⟩,⟨k2,?_,hm2,hr2⟩,Ne.symm e3⟩
 ·show (upd (upd (upd (upd H1 d1 (.dK k1)) y.o _) d2 _) y.o _) d1=_
  rw [upd_ne e1,upd_ne (Ne.symm e3),upd_ne e1]
  exact upd_same
 ·show (upd (upd (upd (upd H1 d1 (.dK k1)) y.o _) d2 _) y.o _) d2=_
  rw [upd_ne e2]
  exact upd_same
theorem ser_put (a k b o r:V):putF "races" r (putF "outs" o (putF "boats" b (putF "line_count" k (putF "codes" a []))))=serF a k b o r:=by
 simp only [putF]
 rw [if_neg (by decide)]
 simp only [putF]
 rw [if_neg (by decide),if_neg (by decide)]
 simp only [putF]
 rw [if_neg (by decide),if_neg (by decide),if_neg (by decide)]
 simp only [putF]
 rw [if_neg (by decide),if_neg (by decide),if_neg (by decide),if_neg (by decide)]
 rfl
theorem lenP {f:Str} {v:V}:∀ {fs:List (Str×V)} {n:Nat},fs.length≤n→(putF f v fs).length≤n + 1
 | [],n,_=>Nat.succ_le_succ (Nat.zero_le _)
 | (g,x)::r,n,h=>by
  unfold putF
  split
  ·exact Nat.le_succ_of_le h
  ·cases n with
   | zero=>simp at h
   | succ n =>
    have:=lenP (f:=f) (v:=v) (fs:=r) (n:=n) (Nat.le_of_succ_le_succ h)
    exact Nat.succ_le_succ this
def spSerInit (cR C:Addr):Sp:=fun vs H Q _=>∃ (p dx:Addr) (av:Addr→Prop),vs=[.ref p]∧H p=some (.ins C dx [])∧(∀ b,H b=none→av b)∧∀ (cd bd od rl:Addr) (H':Hp),H cd=none→H bd=none→H od=none→H rl=none→KeepBut p H H'→SerAt cR C H' ⟨p,cd,bd,od,rl,[],[],av⟩ [] []→Q .non H'
theorem scSerInit:FnScope ["self"] ["self"] (defScope s_Series_init):=⟨rfl,rfl,rfl,by decide +kernel,rfl,by decide +kernel,by decide +kernel⟩
theorem ok_ser_init (T:Tx P w K mg):FnOk P w K mg base CX0 1 T.Series.f T.Series.fd ["self"] (spSerInit T.Race.C T.Series.C):=by
 refine T.Series.fn.ok scSerInit (fun vs H Q E h=>?_) (fun cdv A outer s H vs Q E hr h=>?_)
 ·obtain ⟨p,dx,av,rfl,_⟩:=h
  rfl
 obtain ⟨p,dx,av,rfl,hp,hav,q⟩:=h
 refine ⟨_,pss_cons (ps_fld (pv 0) (pe_lst pa_nil) rfl) (pss_cons (ps_fld (pv 0) pe_int rfl) (pss_cons (ps_fld (pv 0) pe_dnewK rfl) (pss_cons (ps_fld (pv 0) (pe_lst pa_nil) rfl) (pss_one (ps_fld (pv 0) (pe_lst pa_nil) rfl))))),?_⟩
 refine ⟨Nat.zero_le _,fun cd hcd=>?_⟩
 have n1:p≠cd:=ne_of_none hp hcd
 refine ⟨_,rfl,p,T.Series.C,dx,_,rfl,by rw [upd_ne n1]; exact hp,T.Series.cl,T.a_Series_codes,(by show 0 < 1000; decide),?_⟩
 refine ⟨_,rfl,p,T.Series.C,dx,_,rfl,upd_same,T.Series.cl,T.a_Series_line_count,Nat.lt_of_le_of_lt (lenP (Nat.le_refl 0)) (by decide),?_⟩
 rw [upd_upd]
 have k1:KeepBut p H (upd (upd H cd (.lst [])) p (.ins T.Series.C dx (putF "line_count" (.int 0) (putF "codes" (.ref cd) [])))):=((KeepBut.refl p H).put (.inr hcd)).put (.inl rfl)
 intro bd hbd
 have n2:p≠bd:=ne_of_none (H:=upd (upd H cd (.lst [])) p (.ins T.Series.C dx (putF "line_count" (.int 0) (putF "codes" (.ref cd) [])))) upd_same hbd
 have c1:(upd (upd H cd (.lst [])) p (.ins T.Series.C dx (putF "line_count" (.int 0) (putF "codes" (.ref cd) [])))) cd=some (.lst []):=by rw [upd_ne (Ne.symm n1)]; exact upd_same
 have n3:cd≠bd:=ne_of_none c1 hbd
 have hbd0:H bd=none:=k1.free ⟨_,upd_same⟩ hbd
 refine ⟨_,rfl,p,T.Series.C,dx,_,rfl,by rw [upd_ne n2]; exact upd_same,T.Series.cl,T.a_Series_boats,Nat.lt_of_le_of_lt (lenP (lenP (Nat.le_refl 0))) (by decide),?_⟩
 generalize hH1:upd (upd H cd (.lst [])) p (.ins T.Series.C dx (putF "line_count" (.int 0) (putF "codes" (.ref cd) [])))=H1 at *
 have k2:KeepBut p H (upd (upd H1 bd (.dK [])) p (.ins T.Series.C dx (putF "boats" (.ref bd) (putF "line_count" (.int 0) (putF "codes" (.ref cd) []))))):=(k1.put (.inr hbd0)).put (.inl rfl)
 refine ⟨Nat.zero_le _,fun od hod=>?_⟩
 have c2:(upd (upd H1 bd (.dK [])) p (.ins T.Series.C dx (putF "boats" (.ref bd) (putF "line_count" (.int 0) (putF "codes" (.ref cd) []))))) cd=some (.lst []):=by rw [upd_ne (Ne.symm n1),upd_ne n3]; exact c1
 have b2:(upd (upd H1 bd (.dK [])) p (.ins T.Series.C dx (putF "boats" (.ref bd) (putF "line_count" (.int 0) (putF "codes" (.ref cd) []))))) bd=some (.dK []):=by rw [upd_ne (Ne.symm n2)]; exact upd_same
 have p2:(upd (upd H1 bd (.dK [])) p (.ins T.Series.C dx (putF "boats" (.ref bd) (putF "line_count" (.int 0) (putF "codes" (.ref cd) []))))) p=some (.ins T.Series.C dx (putF "boats" (.ref bd) (putF "line_count" (.int 0) (putF "codes" (.ref cd) [])))):=upd_same
 generalize hH2:upd (upd H1 bd (.dK [])) p (.ins T.Series.C dx (putF "boats" (.ref bd) (putF "line_count" (.int 0) (putF "codes" (.ref cd) []))))=H2 at *
 have n4:p≠od:=ne_of_none p2 hod
 have n5:cd≠od:=ne_of_none c2 hod
 have n6:bd≠od:=ne_of_none b2 hod
 have hod0:H od=none:=k2.free ⟨_,p2⟩ hod
 refine ⟨_,rfl,p,T.Series.C,dx,_,rfl,by rw [upd_ne n4]; exact p2,T.Series.cl,T.a_Series_outs,Nat.lt_of_le_of_lt (lenP (lenP (lenP (Nat.le_refl 0)))) (by decide),?_⟩
 have k3:KeepBut p H (upd (upd H2 od (.lst [])) p (.ins T.Series.C dx (putF "outs" (.ref od) (putF "boats" (.ref bd) (putF "line_count" (.int 0) (putF "codes" (.ref cd) [])))))):=(k2.put (.inr hod0)).put (.inl rfl)
 have c3:(upd (upd H2 od (.lst [])) p (.ins T.Series.C dx (putF "outs" (.ref od) (putF "boats" (.ref bd) (putF "line_count" (.int 0) (putF "codes" (.ref cd) [])))))) cd=some (.lst []):=by rw [upd_ne (Ne.symm n1),upd_ne n5]; exact c2
 have b3:(upd (upd H2 od (.lst [])) p (.ins T.Series.C dx (putF "outs" (.ref od) (putF "boats" (.ref bd) (putF "line_count" (.int 0) (putF "codes" (.ref cd) [])))))) bd=some (.dK []):=by rw [upd_ne (Ne.symm n2),upd_ne n6]; exact b2
 have o3:(upd (upd H2 od (.lst [])) p (.ins T.Series.C dx (putF "outs" (.ref od) (putF "boats" (.ref bd) (putF "line_count" (.int 0) (putF "codes" (.ref cd) [])))))) od=some (.lst []):=by rw [upd_ne (Ne.symm n4)]; exact upd_same
 have p3:(upd (upd H2 od (.lst [])) p (.ins T.Series.C dx (putF "outs" (.ref od) (putF "boats" (.ref bd) (putF "line_count" (.int 0) (putF "codes" (.ref cd) [])))))) p=some (.ins T.Series.C dx (putF "outs" (.ref od) (putF "boats" (.ref bd) (putF "line_count" (.int 0) (putF "codes" (.ref cd) []))))):=upd_same
 generalize hH3:upd (upd H2 od (.lst [])) p (.ins T.Series.C dx (putF "outs" (.ref od) (putF "boats" (.ref bd) (putF "line_count" (.int 0) (putF "codes" (.ref cd) [])))))=H3 at *
 refine ⟨Nat.zero_le _,fun rl hrl=>?_⟩
 have n7:p≠rl:=ne_of_none p3 hrl
 have n8:cd≠rl:=ne_of_none c3 hrl
 have n9:bd≠rl:=ne_of_none b3 hrl
 have n10:od≠rl:=ne_of_none o3 hrl
 have hrl0:H rl=none:=k3.free ⟨_,p3⟩ hrl
 refine ⟨_,rfl,p,T.Series.C,dx,_,rfl,by rw [upd_ne n7]; exact p3,T.Series.cl,T.a_Series_races,Nat.lt_of_le_of_lt (lenP (lenP (lenP (lenP (Nat.le_refl 0))))) (by decide),?_⟩
 rw [ser_put]
 refine q cd bd od rl _ hcd hbd0 hod0 hrl0 ((k3.put (.inr hrl0)).put (.inl rfl)) ⟨Rc.Good.nil,⟨dx,upd_same⟩,?_,⟨[],?_,rfl,fun n=>rfl⟩,⟨?_,rfl,fun i o x h=>(by simp at h)⟩,⟨?_,rfl,fun k x ls h=>(by simp at h)⟩,⟨n5,n8,n10⟩,fun x hx=>(by cases hx),.nil,⟨hav _ hcd,hav _ hod0,hav _ hrl0⟩⟩
 ·rw [upd_ne (Ne.symm n1),upd_ne n8]; exact c3
 ·rw [upd_ne (Ne.symm n2),upd_ne n9]; exact b3
 ·rw [upd_ne (Ne.symm n4),upd_ne n10]; exact o3
 ·rw [upd_ne (Ne.symm n7)]; exact upd_same
theorem made_ser {cR C:Addr} {H:Hp} {σ:L2.St} {Q:VK} {E:XK} (av:Addr→Prop) (hav:∀ b,H b=none→av b) (h:∀ (a:SerAd) (H':Hp),a.av=av→Same H H'→SerNew H a→SerAt cR C H' a [] []→Q (.ref a.o) H'):tMake C (spSerInit cR C) [] E tNil σ H Q:=by
 intro x dx hx hdx hne
 have free:∀ b,(upd (upd H dx (.own x)) x (.ins C dx [])) b=none→H b=none:=fun b e=>by
  have b1:b≠x:=fun z=>by rw [z,upd_same] at e; cases e
  rw [upd_ne b1] at e
  have b2:b≠dx:=fun z=>by rw [z,upd_same] at e; cases e
  rw [upd_ne b2] at e
  exact e
 refine ⟨x,dx,av,rfl,upd_same,fun b e=>hav b (free b e),fun cd bd od rl H' h1 h2 h3 h4 k S=>⟨rfl,?_⟩⟩
 exact h ⟨x,cd,bd,od,rl,[],[],av⟩ H' rfl (Same.made hx hdx k) ⟨hx,free cd h1,free bd h2,free od h3,free rl h4,fun y hy=>(by cases hy),hav⟩ S
end
end Rv
end
section
namespace Rv
open PySem PySem.Spec PyProof.Rows L2
open RgScore (Bytes Name Line Series boats outs races ownOf penOf ascii thisRace stands wrongOf tooMany)
theorem ResV.upd {ok:Addr→Prop} {H:Hp} {v:Option V} {l:Option Line} {q:Addr} {o:HO} (h:ResV ok H v l) (h4:∀ t xs,H t=some (.tup xs)→t≠q) (h5:∀ na xs,ok na→H na=some (.lst xs)→na≠q):ResV ok (upd H q o) v l:=by
 cases v with
 | none=>cases l with
  | none=>trivial
  | some l=>exact h
 | some v=>cases l with
  | none=>exact h
  | some l =>
   obtain ⟨t,na,e,g1,g2,g3⟩:=h
   exact ⟨t,na,e,by rw [upd_ne (h4 t _ g1)]; exact g1,by rw [upd_ne (h5 na _ g3 g2)]; exact g2,g3⟩
theorem RaceAt.upd {C:Addr} {ok:Addr→Prop} {H:Hp} {bs:List Name} {m:Nat} {ls:List Line} {x:RaceAd} {q:Addr} {o:HO} (R:RaceAt C ok H bs m ls x) (h1:x.o≠q) (h2:x.rd≠q) (h3:x.pd≠q) (h4:∀ t xs,H t=some (.tup xs)→t≠q)
  (h5:∀ na xs,ok na→H na=some (.lst xs)→na≠q):RaceAt C ok (upd H q o) bs m ls x:=by
 obtain ⟨⟨dx,g1⟩,⟨k1,g2,g3,g4⟩,⟨k2,g5,g6,g7⟩,g8⟩:=R
 exact ⟨⟨dx,by rw [upd_ne h1]; exact g1⟩,⟨k1,by rw [upd_ne h2]; exact g2,g3,fun i n e=>(g4 i n e).upd h4 h5⟩,⟨k2,by rw [upd_ne h3]; exact g5,g6,g7⟩,g8⟩
section
variable {P:Program} {w:World} {K:PySem.W.Frag} {mg:Str→Option Value} {base:Heap}
theorem ser_p1 (a k b o r v:V):putF "codes" v (serF a k b o r)=serF v k b o r:=by
 unfold serF
 simp only [putF]
 rw [if_pos trivial]
theorem ser_p2 (a k b o r v:V):putF "line_count" v (serF a k b o r)=serF a v b o r:=by
 unfold serF
 simp only [putF]
 rw [if_neg (by decide),if_pos trivial]
theorem ser_p3 (a k b o r v:V):putF "boats" v (serF a k b o r)=serF a k v o r:=by
 unfold serF
 simp only [putF]
 rw [if_neg (by decide),if_neg (by decide),if_pos trivial]
theorem ser_p4 (a k b o r v:V):putF "outs" v (serF a k b o r)=serF a k b v r:=by
 unfold serF
 simp only [putF]
 rw [if_neg (by decide),if_neg (by decide),if_neg (by decide),if_pos trivial]
theorem ser_p5 (a k b o r v:V):putF "races" v (serF a k b o r)=serF a k b o v:=by
 unfold serF
 simp only [putF]
 rw [if_neg (by decide),if_neg (by decide),if_neg (by decide),if_neg (by decide),if_pos trivial]
def spSerCopy (T:Tx P w K mg):Sp:=fun vs H Q _=>∃ (a:SerAd) (c:Series) (t:Bytes),vs=[.ref a.o]∧SerAt T.Race.C T.Series.C H a c t∧(∀ b,H b=none→a.av b)∧∀ (a':SerAd) (H':Hp),a'.av=a.av→Same H H'→SerNew H a'→SerAt T.Race.C T.Series.C H' a' c t→Q (.ref a'.o) H'
theorem scSerCopy:FnScope ["series","twin","race"] ["series"] (defScope s_series_copy):=⟨rfl,rfl,rfl,by decide +kernel,rfl,by decide +kernel,by decide +kernel⟩
theorem ok_ser_copy (T:Tx P w K mg):FnOk P w K mg base CX0 4 T.series_copy.f T.series_copy.fd ["series"] (spSerCopy T):=by
 have nd:=scSerCopy.nd
 have G1:=ok_ser_init (base:=base) T
 have G2:=ok_race_copy (base:=base) T
 refine T.series_copy.fn.ok scSerCopy (fun vs H Q E h=>?_) (fun cdv A outer s H vs Q E hr h=>?_)
 ·obtain ⟨a,c,t,rfl,_⟩:=h
  rfl
 obtain ⟨a,c,t,rfl,S,hav,q⟩:=h
 have F:=S.good.facts
 refine ⟨_,pss_cons (ps_set (i:=1) nd rfl (Or.inl rfl) (pe_make0 T.Series.mkx G1 (hr.mono (by decide)) rfl T.Series.gl T.Series.bd .nil pass0))
  (pss_cons (ps_fld (pv 1) (pe_callTy call_list_of (by rfl) T.n_list PyProof.Rows.boot_list (pa_cons (pe_fld (pv 0) rfl) pa_nil)) rfl)
  (pss_cons (ps_fld (pv 1) (pe_fld (pv 0) rfl) rfl)
  (pss_cons (ps_fld (pv 1) (pe_callTy call_dict_of (by rfl) T.n_dict PyProof.Rows.boot_dict (pa_cons (pe_fld (pv 0) rfl) pa_nil)) rfl)
  (pss_cons (ps_fld (pv 1) (pe_callTy call_list_of (by rfl) T.n_list PyProof.Rows.boot_list (pa_cons (pe_fld (pv 0) rfl) pa_nil)) rfl)
  (pss_cons (ps_fld (pv 1) (pe_lc rfl nd (pi_list (pe_fld (pv 0) rfl)) (own:=[("race",2)]) (blkOk_by (by rfl)) (fun _ _ _ _ _=>pg_name (i:=2) nd rfl (Or.inl rfl)) (fun _ _ _ _ _=>pts_nil) (fun _ _ _ _ _=>(pe_call G2 (hr.mono (by decide)) rfl T.race_copy.gl T.race_copy.fn.kp T.race_copy.bd .nil pass0 (pa_cons (pv 2) pa_nil)))) rfl)
  (pss_one (ps_ret (pv 1)))))))),?_⟩
 dsimp only [tSeq,tAsg,gName]
 refine made_ser (fun _=>True) (fun _ _=>trivial) fun b H1 _ s1 N S1=>?_
 obtain ⟨dS,hS⟩:=S.obj
 obtain ⟨db,hb⟩:=S1.obj
 obtain ⟨kvs,hk,hkl,hkv⟩:=S.hBoats
 refine ⟨_,rfl,a.o,_,dS,_,_,rfl,s1 _ _ hS,T.Series.cl,T.a_Series_codes,ser_codes _ _ _ _ _,a.cd,_,rfl,.inl (SqL.of (s1 _ _ S.codes)),fun cd hcd=>?_⟩
 have f1:H cd=none:=s1.free hcd
 have m1:b.o≠cd:=ne_of_none hb hcd
 refine ⟨_,rfl,b.o,_,db,_,rfl,by rw [upd_ne m1]; exact hb,T.Series.cl,T.a_Series_codes,(by show 5 < 1000; decide),?_⟩
 rw [ser_p1]
 have s2:=(s1.put (o:=.lst (bytesV t)) f1).put (o:=.ins T.Series.C db (serF (.ref cd) (natV ([]:Series).length) (.ref b.bd) (.ref b.od) (.ref b.rl))) N.o
 have c2:(upd (upd H1 cd (.lst (bytesV t))) b.o (.ins T.Series.C db (serF (.ref cd) (natV ([]:Series).length) (.ref b.bd) (.ref b.od) (.ref b.rl)))) cd=some (.lst (bytesV t)):=by rw [upd_ne (Ne.symm m1)]; exact upd_same
 have p2:(upd (upd H1 cd (.lst (bytesV t))) b.o (.ins T.Series.C db (serF (.ref cd) (natV ([]:Series).length) (.ref b.bd) (.ref b.od) (.ref b.rl)))) b.o=some _:=upd_same
 generalize hH2:upd (upd H1 cd (.lst (bytesV t))) b.o (.ins T.Series.C db (serF (.ref cd) (natV ([]:Series).length) (.ref b.bd) (.ref b.od) (.ref b.rl)))=H2 at *
 refine ⟨_,rfl,a.o,_,dS,_,_,rfl,s2 _ _ hS,T.Series.cl,T.a_Series_line_count,ser_count _ _ _ _ _,_,rfl,b.o,_,db,_,rfl,p2,T.Series.cl,T.a_Series_line_count,(by show 5 < 1000; decide),?_⟩
 rw [ser_p2]
 have s3:=s2.put (o:=.ins T.Series.C db (serF (.ref cd) (natV c.length) (.ref b.bd) (.ref b.od) (.ref b.rl))) N.o
 have c3:(upd H2 b.o (.ins T.Series.C db (serF (.ref cd) (natV c.length) (.ref b.bd) (.ref b.od) (.ref b.rl)))) cd=some (.lst (bytesV t)):=by rw [upd_ne (Ne.symm m1)]; exact c2
 have p3:(upd H2 b.o (.ins T.Series.C db (serF (.ref cd) (natV c.length) (.ref b.bd) (.ref b.od) (.ref b.rl)))) b.o=some _:=upd_same
 generalize hH3:upd H2 b.o (.ins T.Series.C db (serF (.ref cd) (natV c.length) (.ref b.bd) (.ref b.od) (.ref b.rl)))=H3 at *
 refine ⟨_,rfl,a.o,_,dS,_,_,rfl,s3 _ _ hS,T.Series.cl,T.a_Series_boats,ser_boats _ _ _ _ _,a.bd,kvs,rfl,s3 _ _ hk,fun bd hbd=>?_⟩
 have f2:H bd=none:=s3.free hbd
 have m2:b.o≠bd:=ne_of_none p3 hbd
 have m3:cd≠bd:=ne_of_none c3 hbd
 refine ⟨_,rfl,b.o,_,db,_,rfl,by rw [upd_ne m2]; exact p3,T.Series.cl,T.a_Series_boats,(by show 5 < 1000; decide),?_⟩
 rw [ser_p3]
 have s4:=(s3.put (o:=.dK kvs) f2).put (o:=.ins T.Series.C db (serF (.ref cd) (natV c.length) (.ref bd) (.ref b.od) (.ref b.rl))) N.o
 have c4:(upd (upd H3 bd (.dK kvs)) b.o (.ins T.Series.C db (serF (.ref cd) (natV c.length) (.ref bd) (.ref b.od) (.ref b.rl)))) cd=some (.lst (bytesV t)):=by rw [upd_ne (Ne.symm m1),upd_ne m3]; exact c3
 have b4:(upd (upd H3 bd (.dK kvs)) b.o (.ins T.Series.C db (serF (.ref cd) (natV c.length) (.ref bd) (.ref b.od) (.ref b.rl)))) bd=some (.dK kvs):=by rw [upd_ne (Ne.symm m2)]; exact upd_same
 have p4:(upd (upd H3 bd (.dK kvs)) b.o (.ins T.Series.C db (serF (.ref cd) (natV c.length) (.ref bd) (.ref b.od) (.ref b.rl)))) b.o=some _:=upd_same
 generalize hH4:upd (upd H3 bd (.dK kvs)) b.o (.ins T.Series.C db (serF (.ref cd) (natV c.length) (.ref bd) (.ref b.od) (.ref b.rl)))=H4 at *
 refine ⟨_,rfl,a.o,_,dS,_,_,rfl,s4 _ _ hS,T.Series.cl,T.a_Series_outs,ser_outs _ _ _ _ _,a.od,_,rfl,.inl (SqL.of (s4 _ _ S.hOuts.1)),fun od hod=>?_⟩
 have f3:H od=none:=s4.free hod
 have m4:b.o≠od:=ne_of_none p4 hod
 have m5:cd≠od:=ne_of_none c4 hod
 have m6:bd≠od:=ne_of_none b4 hod
 refine ⟨_,rfl,b.o,_,db,_,rfl,by rw [upd_ne m4]; exact p4,T.Series.cl,T.a_Series_outs,(by show 5 < 1000; decide),?_⟩
 rw [ser_p4]
 have s5:=(s4.put (o:=.lst (a.os.map V.ref)) f3).put (o:=.ins T.Series.C db (serF (.ref cd) (natV c.length) (.ref bd) (.ref od) (.ref b.rl))) N.o
 have c5:(upd (upd H4 od (.lst (a.os.map V.ref))) b.o (.ins T.Series.C db (serF (.ref cd) (natV c.length) (.ref bd) (.ref od) (.ref b.rl)))) cd=some (.lst (bytesV t)):=by rw [upd_ne (Ne.symm m1),upd_ne m5]; exact c4
 have b5:(upd (upd H4 od (.lst (a.os.map V.ref))) b.o (.ins T.Series.C db (serF (.ref cd) (natV c.length) (.ref bd) (.ref od) (.ref b.rl)))) bd=some (.dK kvs):=by rw [upd_ne (Ne.symm m2),upd_ne m6]; exact b4
 have o5:(upd (upd H4 od (.lst (a.os.map V.ref))) b.o (.ins T.Series.C db (serF (.ref cd) (natV c.length) (.ref bd) (.ref od) (.ref b.rl)))) od=some (.lst (a.os.map V.ref)):=by rw [upd_ne (Ne.symm m4)]; exact upd_same
 have p5:(upd (upd H4 od (.lst (a.os.map V.ref))) b.o (.ins T.Series.C db (serF (.ref cd) (natV c.length) (.ref bd) (.ref od) (.ref b.rl)))) b.o=some _:=upd_same
 generalize hH5:upd (upd H4 od (.lst (a.os.map V.ref))) b.o (.ins T.Series.C db (serF (.ref cd) (natV c.length) (.ref bd) (.ref od) (.ref b.rl)))=H5 at *
 refine ⟨_,rfl,a.o,_,dS,_,_,rfl,s5 _ _ hS,T.Series.cl,T.a_Series_races,ser_races _ _ _ _ _,a.rl,rfl,⟨_,SqL.of (s5 _ _ S.hRaces.1)⟩,fun D hD=>?_⟩
 have fD:H D=none:=s5.free hD
 have m7:b.o≠D:=ne_of_none p5 hD
 have m8:cd≠D:=ne_of_none c5 hD
 have m9:bd≠D:=ne_of_none b5 hD
 have m10:od≠D:=ne_of_none o5 hD
 refine lc_list (K:=K) (a:=a.rl) (xs:=a.rs.map fun x=>V.ref x.o) (fun k H'=>Same H5 H'∧∃ ys:List RaceAd,H' D=some (.lst (ys.map fun x=>V.ref x.o))∧ys.length=k ∧
   (∀ (j:Nat) (y:RaceAd) (ls:List Line),ys[j]?=some y→(races c)[j]?=some ls→RaceAt T.Race.C (fun na=>(∃ xs,H na=some (.lst xs))∧a.av na) H' (boats c) c.length ls y)∧(∀ y∈ys,(∃ o,H' y.rd=some (.dK o))∧(∃ o,H' y.pd=some (.dK o))∧H5 y.o=none∧H5 y.rd=none∧H5 y.pd=none)∧ys.Pairwise Apart)
  ⟨Same.new hD,[],upd_same,rfl,fun j y ls h=>(by simp at h),fun y hy=>(by cases hy),.nil⟩ (fun k H' _ h=>SqL.of (h.1 _ _ (s5 _ _ S.hRaces.1))) ?_ ?_
 ·rintro k y0 H' hy ⟨s6,ys,g1,g2,g3,g4,g5⟩
  obtain ⟨x,hx,rfl⟩:∃ x,a.rs[k]?=some x∧y0=.ref x.o:=by
   rw [List.getElem?_map] at hy
   cases e:a.rs[k]? with
   | none=>rw [e] at hy; cases hy
   | some o=>rw [e] at hy; exact ⟨o,rfl,(Option.some.inj hy).symm⟩
  have hkl':k < (races c).length:=by
   have:=(List.getElem?_eq_some_iff.mp hx).1
   rw [S.hRaces.2.1] at this
   exact this
  have hls:(races c)[k]?=some (races c)[k]:=List.getElem?_eq_getElem hkl'
  have R0:=(S.hRaces.2.2 k x _ hx hls).ok (ok':=fun na=>(∃ xs,H na=some (.lst xs))∧a.av na) fun na xs g h=>⟨⟨xs,h⟩,g.2.2.2⟩
  have R1:=R0.keep (Kp.of (s5.trans s6))
  refine ⟨rfl,?_⟩
  dsimp only [tYes,gName]
  rw [if_pos rfl]
  refine ⟨_,rfl,x,_,boats c,c.length,(races c)[k],rfl,R1,fun y H2 s7 hyo hyr hyp R2=>?_⟩
  have g1':=s7 _ _ g1
  have hoff:∀ z ls,RaceAt T.Race.C (fun na=>(∃ xs,H na=some (.lst xs))∧a.av na) H2 (boats c) c.length ls z→RaceAt T.Race.C (fun na=>(∃ xs,H na=some (.lst xs))∧a.av na) (upd H2 D (.lst ((ys.map fun x=>V.ref x.o)++[V.ref y.o]))) (boats c) c.length ls z:=fun z ls Rz=>by
   obtain ⟨⟨dz,z1⟩,⟨k1,z2,_⟩,⟨k2,z3,_⟩,_⟩:=id Rz
   exact Rz.upd (ne_of z1 g1' (by intro z; cases z)) (ne_of z2 g1' (by intro z; cases z)) (ne_of z3 g1' (by intro z; cases z)) (fun t xs e=>ne_of e g1' (by intro z; cases z)) fun na xs ⟨⟨xs',e⟩,_⟩ _=>ne_of_none e fD
  refine ⟨_,g1',by rw [List.length_map]; exact line10' (by have:=F.nr; omega),(s6.trans s7).put hD,ys++[y],?_,by rw [List.length_append,g2]; rfl,fun j z ls hj hl=>?_,fun z hz=>?_,?_⟩
  ·rw [upd_same,List.map_append]
   rfl
  ·by_cases e:j < ys.length
   ·rw [List.getElem?_append_left e] at hj
    exact hoff _ _ ((g3 j z ls hj hl).keep (Kp.of s7))
   ·have hj':=(List.getElem?_eq_some_iff.mp hj).1
    rw [List.length_append] at hj'
    have ej:j=k:=by
     have:([y]:List RaceAd).length=1:=rfl
     omega
    subst ej
    rw [List.getElem?_append_right (by omega),g2,Nat.sub_self] at hj
    cases hj
    rw [hls] at hl
    cases hl
    exact hoff _ _ R2
  ·obtain ⟨⟨dz,z1⟩,⟨k1,z2,_⟩,⟨k2,z3,_⟩,_⟩:=R2
   rcases List.mem_append.mp hz with hz | hz
   ·obtain ⟨⟨o1,e1⟩,⟨o2,e2⟩,e3,e4,e5⟩:=g4 z hz
    have e1':=s7 _ _ e1
    have e2':=s7 _ _ e2
    exact ⟨⟨o1,by rw [upd_ne (ne_of e1' g1' (by intro z; cases z))]; exact e1'⟩,⟨o2,by rw [upd_ne (ne_of e2' g1' (by intro z; cases z))]; exact e2'⟩,e3,e4,e5⟩
   ·rw [List.mem_singleton.mp hz]
    exact ⟨⟨k1,by rw [upd_ne (ne_of z2 g1' (by intro z; cases z))]; exact z2⟩,⟨k2,by rw [upd_ne (ne_of z3 g1' (by intro z; cases z))]; exact z3⟩,s6.free hyo,s6.free hyr,s6.free hyp⟩
  ·refine List.pairwise_append.mpr ⟨g5,List.pairwise_singleton _ _,fun z hz z' hz'=>?_⟩
   rw [List.mem_singleton.mp hz']
   obtain ⟨⟨o1,e1⟩,⟨o2,e2⟩,_⟩:=g4 z hz
   exact ⟨ne_of_none e1 hyr,ne_of_none e1 hyp,ne_of_none e2 hyr,ne_of_none e2 hyp⟩
 ·rintro H' ⟨s6,ys,g1,g2,g3,g4,g5⟩
  rw [List.length_map] at g2
  have p6:=s6 _ _ p5
  refine ⟨_,rfl,b.o,_,db,_,rfl,p6,T.Series.cl,T.a_Series_races,(by show 5 < 1000; decide),?_⟩
  rw [ser_p5]
  have s7:Same H H':=s5.trans s6
  have s8:=s7.put (o:=.ins T.Series.C db (serF (.ref cd) (natV c.length) (.ref bd) (.ref od) (.ref D))) N.o
  refine ⟨_,rfl,?_⟩
  refine q ⟨b.o,cd,bd,od,D,ys,a.os,a.av⟩ _ rfl s8 ⟨N.o,f1,f2,f3,fD,fun y hy=>?_,hav⟩ ⟨S.good,⟨db,upd_same⟩,?_,⟨kvs,?_,hkl,hkv⟩,⟨?_,S.hOuts.2.1,fun i o p e1 e2=>s8 _ _ (S.hOuts.2.2 i o p e1 e2)⟩,⟨?_,by show ys.length=_; rw [g2,S.hRaces.2.1],fun k y ls e1 e2=>?_⟩,⟨m5,m8,m10⟩,fun y hy=>?_,g5,⟨hav _ f1,hav _ f3,hav _ fD⟩⟩
  ·obtain ⟨_,_,e3,e4,e5⟩:=g4 y hy
   exact ⟨s5.free e3,s5.free e4,s5.free e5⟩
  ·show (upd H' b.o _) cd=_
   rw [upd_ne (Ne.symm m1)]
   exact s6 _ _ c5
  ·show (upd H' b.o _) bd=_
   rw [upd_ne (Ne.symm m2)]
   exact s6 _ _ b5
  ·show (upd H' b.o _) od=_
   rw [upd_ne (Ne.symm m4)]
   exact s6 _ _ o5
  ·show (upd H' b.o _) D=_
   rw [upd_ne (Ne.symm m7)]
   exact g1
  ·have R:=g3 k y ls e1 e2
   obtain ⟨_,_,e3,e4,e5⟩:=g4 y (List.mem_of_getElem? e1)
   obtain ⟨⟨dz,z1⟩,⟨k1,z2,_⟩,⟨k2,z3,_⟩,_⟩:=id R
   have R':=R.upd (q:=b.o) (o:=.ins T.Series.C db (serF (.ref cd) (natV c.length) (.ref bd) (.ref od) (.ref D))) (ne_of_none p5 e3).symm (ne_of z2 p6 (by intro z; cases z)) (ne_of z3 p6 (by intro z; cases z)) (fun t xs e=>ne_of e p6 (by intro z; cases z)) fun na xs _ e=>ne_of e p6 (by intro z; cases z)
   exact R'.ok fun na xs ⟨⟨xs',e⟩,g⟩ _=>⟨ne_of_none e f1,ne_of_none e f3,ne_of_none e fD,g⟩
  ·obtain ⟨_,_,e3,e4,e5⟩:=g4 y hy
   exact ⟨(ne_of_none b5 e4).symm,(ne_of_none b5 e5).symm⟩
end
end Rv
end
section
namespace Rv
open PySem PySem.Spec PyProof.Rows L2
open RgScore (Bytes Name Line Series boats outs races ownOf penOf ascii thisRace stands wrongOf tooMany)
structure SerB (cR:Addr) (H:Hp) (a:SerAd) (c:Series) (t:Bytes):Prop where
 codes:H a.cd=some (.lst (bytesV t))
 hBoats:∃ kvs,H a.bd=some (.dK kvs)∧kvs.length=(boats c).length∧∀ n:Name,valV kvs (Sum.inr (strOf n))=((boats c).idxOf? n).map natV
 hOuts:H a.od=some (.lst (a.os.map V.ref))∧a.os.length=(outs c).length∧∀ (i:Nat) (o:Addr) (p:Nat×Nat),a.os[i]?=some o→(outs c)[i]?=some p→H o=some (.tup [natV p.1,natV p.2])
 hRaces:H a.rl=some (.lst (a.rs.map fun x=>V.ref x.o))∧a.rs.length=(races c).length∧∀ (k:Nat) (x:RaceAd) (ls:List Line),a.rs[k]?=some x→(races c)[k]?=some ls→RaceAt cR a.okn H (boats c) c.length ls x
 nel:a.cd≠a.od∧a.cd≠a.rl∧a.od≠a.rl
 ned:∀ x∈a.rs,x.rd≠a.bd∧x.pd≠a.bd
 nea:a.rs.Pairwise Apart
 hav:a.av a.cd∧a.av a.od∧a.av a.rl
theorem race_ne_ser {cR cS dz dx:Addr} {a b c d e f g:V}:HO.ins cR dz (raceF a b)≠HO.ins cS dx (serF c d e f g):=by
 intro z
 injection z with _ _ z
 have:=congrArg List.length z
 exact absurd this (by show ¬ (2=5); decide)
theorem SerB.at_ {cR cS:Addr} {H:Hp} {a:SerAd} {c:Series} {t:Bytes} {dx:Addr} {x y z u v:V} {k':Nat} (B:SerB cR H a c t) (g:Rc.Good c) (ho:H a.o=some (.ins cS dx (serF x y z u v))) :
  SerAt cR cS (upd H a.o (.ins cS dx (serF (.ref a.cd) (natV c.length) (.ref a.bd) (.ref a.od) (.ref a.rl)))) a c t:=by
 obtain ⟨h2,⟨kb,h3,h4,h5⟩,⟨h6,h7,h8⟩,⟨h9,h10,h11⟩,h12,h13,h14,h15⟩:=B
 have nl:∀ {b:Addr} {xs:List V},H b=some (.lst xs)→b≠a.o:=fun e=>ne_of e ho (by intro z; cases z)
 have nt:∀ {b:Addr} {xs:List V},H b=some (.tup xs)→b≠a.o:=fun e=>ne_of e ho (by intro z; cases z)
 have nk:∀ {b:Addr} {xs:List (Key×V)},H b=some (.dK xs)→b≠a.o:=fun e=>ne_of e ho (by intro z; cases z)
 refine ⟨g,⟨dx,upd_same⟩,by rw [upd_ne (nl h2)]; exact h2,⟨kb,by rw [upd_ne (nk h3)]; exact h3,h4,h5⟩,⟨by rw [upd_ne (nl h6)]; exact h6,h7,fun i o p e1 e2=>by rw [upd_ne (nt (h8 i o p e1 e2))]; exact h8 i o p e1 e2⟩,⟨by rw [upd_ne (nl h9)]; exact h9,h10,fun k x ls e1 e2=>?_⟩,h12,h13,h14,h15⟩
 have R:=h11 k x ls e1 e2
 obtain ⟨⟨dz,z1⟩,⟨k1,z2,_⟩,⟨k2,z3,_⟩,_⟩:=id R
 exact R.upd (ne_of z1 ho race_ne_ser) (nk z2) (nk z3) (fun t xs e=>nt e) fun na xs _ e=>nl e
theorem RaceAt.mono {C:Addr} {ok:Addr→Prop} {H:Hp} {bs:List Name} {m m':Nat} {ls:List Line} {x:RaceAd} (R:RaceAt C ok H bs m ls x) (h:m≤m'):RaceAt C ok H bs m' ls x:=by
 obtain ⟨g1,⟨k1,g2,g3,g4⟩,⟨k2,g5,g6,g7⟩,g8⟩:=R
 exact ⟨g1,⟨k1,g2,Nat.le_trans g3 h,g4⟩,⟨k2,g5,Nat.le_trans g6 h,g7⟩,g8⟩
theorem idx_self {l:List Name} {n:Name} (h:n ∉ l):(l++[n]).idxOf? n=some l.length:=by
 induction l with
 | nil=>simp [List.idxOf?_cons]
 | cons x l ih =>
  have h1:x≠n:=fun e=>h (by rw [e]; exact List.mem_cons_self)
  rw [List.cons_append,List.idxOf?_cons,ih fun e=>h (List.mem_cons_of_mem _ e)]
  simp [h1]
theorem idx_other {n m:Name} (h:m≠n):∀ l:List Name,(l++[n]).idxOf? m=l.idxOf? m
 | []=>by simp [List.idxOf?_cons,Ne.symm h]
 | x::l=>by rw [List.cons_append,List.idxOf?_cons,List.idxOf?_cons,idx_other h l]
section
variable {P:Program} {w:World} {K:PySem.W.Frag} {mg:Str→Option Value} {base:Heap}
def spPut (T:Tx P w K mg):Sp:=fun vs H Q _=>∃ (H0:Hp) (a:SerAd) (c:Series) (t:Bytes) (lo na:Addr) (l:Line),vs=[.ref a.o,.ref lo]∧Same H0 H∧SerNew H0 a∧SerAt T.Race.C T.Series.C H a c t∧LineAt T.Line.C H lo (Rc.lineP l) na∧a.okn na∧l.ok=true∧wrongOf c l=0∧c.length≤100000 ∧
 ∀ (a':SerAd) (H':Hp),a'.o=a.o→a'.av=a.av→Same H0 H'→SerNew H0 a'→SerAt T.Race.C T.Series.C H' a' (c++[l]) t→Q .non H'
theorem scPut:FnScope ["series","line"] ["series","line"] (defScope s_put_line):=⟨rfl,rfl,rfl,by decide +kernel,rfl,by decide +kernel,by decide +kernel⟩
theorem ok_put (T:Tx P w K mg):FnOk P w K mg base CX0 3 T.put_line.f T.put_line.fd ["series","line"] (spPut T):=by
 have G:=ok_race_init (base:=base) T
 refine T.put_line.fn.ok scPut (fun vs H Q E h=>?_) (fun cdv A outer s H vs Q E hr h=>?_)
 ·obtain ⟨H0,a,c,t,lo,na,l,rfl,_⟩:=h
  rfl
 obtain ⟨H0,a,c,t,lo,na,l,rfl,s0,N,S,L,hna,hok,hw,hcl,q⟩:=h
 have hu:=hu_of hr
 have F:=S.good.facts
 obtain ⟨w1,w2,w3⟩:=Rc.wrong_zero hw
 have good':Rc.Good (c++[l]):=.snoc S.good hok hw
 obtain ⟨dS,hS⟩:=S.obj
 have tl:∃ tt,PSs (cxOf CX0 P w K mg base ["series","line"] "put_line" (defScope s_put_line) T.put_line.f cdv A outer s H E).nox ((defBody s_put_line).drop 1) tt ∧
   ∀ (a':SerAd) (H1:Hp),a'.o=a.o→a'.av=a.av→Same H0 H1→SerNew H0 a'→SerB T.Race.C H1 a' (c++[l]) t→H1 a.o=some (.ins T.Series.C dS (serF (.ref a'.cd) (natV c.length) (.ref a'.bd) (.ref a'.od) (.ref a'.rl)))→tt { nx:=fun _ H'=>Q .non H',rt:=Q } [some (.ref a.o),some (.ref lo)] H1:=by
  refine ⟨_,pss_one (ps_fld (pv 0) (pe_op op_add (pe_fld (pv 0) rfl) pe_int) rfl),fun a' H1 e1 ev1 s1 N1 B h1=>?_⟩
  refine ⟨_,rfl,a.o,_,dS,_,_,rfl,h1,T.Series.cl,T.a_Series_line_count,ser_count _ _ _ _ _,_,_,rfl,rfl,_,rfl,a.o,_,dS,_,rfl,h1,T.Series.cl,T.a_Series_line_count,(by show 5 < 1000; decide),?_⟩
  rw [ser_p2]
  have e2:V.int ((c.length:Int) + 1)=natV (c++[l]).length:=by
   rw [List.length_append]
   rfl
  dsimp only
  rw [e2]
  have h1':H1 a'.o=some (.ins T.Series.C dS (serF (.ref a'.cd) (natV c.length) (.ref a'.bd) (.ref a'.od) (.ref a'.rl))):=by rw [e1]; exact h1
  have:=B.at_ (k':=0) good' h1'
  rw [e1] at this
  exact q a' _ e1 ev1 (s1.put N.o) N1 this
 obtain ⟨tt,hT,tail⟩:=tl
 refine ⟨_,pss_cons (ps_if (pt_cmpR op_eq (pe_fld (pv 1) rfl) pe_str (nomark _))
   (pss_one (ps_dput hu (pe_fld (pv 0) rfl) (pe_fld (pv 1) rfl) (pe_callB call_lenD (by rfl) T.n_len PySem.boot_len (pa_cons (pe_fld (pv 0) rfl) pa_nil)) rfl))
   (pss_one (ps_if (pt_cmpR op_eq (pe_fld (pv 1) rfl) pe_str (nomark _))
    (pss_one (ps_expr (pe_bm PySem.F.plainAttrs_list PySem.F.slot_list_append PySem.F.type_list_append mt_append (pe_fld (pv 0) rfl) (pa_cons (pe_tup (pa_cons (pe_ix ix_list (pe_fld (pv 1) rfl) pe_int (fun _ _=>rfl)) (pa_cons (pe_ix ix_list (pe_fld (pv 1) rfl) pe_int (fun _ _=>rfl)) pa_nil))) pa_nil))))
    (pss_one (ps_if (pt_cmpR op_eq (pe_fld (pv 1) rfl) pe_str (nomark _))
     (pss_one (ps_expr (pe_bm PySem.F.plainAttrs_list PySem.F.slot_list_append PySem.F.type_list_append mt_append (pe_fld (pv 0) rfl) (pa_cons (pe_make0 T.Race.mkx G (hr.mono (by decide)) rfl T.Race.gl T.Race.bd .nil pass0) pa_nil))))
     (pss_one (ps_if (pt_cmpR op_eq (pe_fld (pv 1) rfl) pe_str (nomark _))
      (pss_one (ps_dput hu (pe_fld (pe_ix ix_list (pe_fld (pv 0) rfl) (pe_un un_neg pe_int) (fun _ _=>rfl)) rfl) (pe_dget hu (pe_fld (pv 0) rfl) (pe_fld (pv 1) rfl) (fun _ _=>rfl)) (pe_ix ix_list (pe_fld (pv 1) rfl) pe_int (fun _ _=>rfl)) rfl))
      (pss_one (ps_dput hu (pe_fld (pe_ix ix_list (pe_fld (pv 0) rfl) (pe_un un_neg pe_int) (fun _ _=>rfl)) rfl) (pe_dget hu (pe_fld (pv 0) rfl) (pe_fld (pv 1) rfl) (fun _ _=>rfl)) (pe_tup (pa_cons (pe_fld (pv 1) rfl) (pa_cons (pe_fld (pv 1) rfl) pa_nil))) rfl)))))))))
  hT,?_⟩
 obtain ⟨dL,hL⟩:=L.obj
 ((try dsimp only [tSeq,tNext,gName]); apply rd_if; exact (evt_test (ev_eq (L.evWord T (ev_var rfl)) ev_c)))
 ·intro h
  rw [is_boat] at h
  cases l with
  | boat n =>
   obtain ⟨kvs,hk,hkl,hkv⟩:=S.hBoats
   rw [Rc.stands_boat F] at w1
   have hrc:races c=[]:=by
    cases e:races c with
    | nil=>rfl
    | cons x r=>rw [e] at w1; simp at w1
   have hnb:n ∉ boats c:=fun e=>by
    have:(boats c).contains n=true:=List.contains_iff_mem.mpr e
    have w2':(boats c).contains n=false:=w2
    rw [this] at w2'
    cases w2'
   have hnv:valV kvs (Sum.inr (strOf n))=none:=by
    rw [hkv]
    cases e:(boats c).idxOf? n with
    | none=>rfl
    | some i=>exact absurd (List.mem_of_getElem? (Rc.idx_some e)) hnb
   refine ⟨_,rfl,a.o,_,dS,_,_,rfl,hS,T.Series.cl,T.a_Series_boats,ser_boats _ _ _ _ _,a.bd,kvs,rfl,hk,?_⟩
   refine ⟨_,rfl,a.o,_,dS,_,_,rfl,hS,T.Series.cl,T.a_Series_boats,ser_boats _ _ _ _ _,_,rfl,lo,_,dL,_,_,rfl,hL,T.Line.cl,T.a_Line_name,line_name _ _ _,a.bd,_,rfl,DPut.k (k:=Sum.inr (strOf n)) hk (line10' (by have:=F.nb; omega)),?_⟩
   have eb:boats (c++[.boat n])=boats c++[n]:=Rc.boats_snoc c _
   have eo:outs (c++[.boat n])=outs c:=by rw [Rc.outs_snoc]; simp
   have er:races (c++[.boat n])=[]:=by rw [Rc.races_line (by simp),hrc]; rfl
   have nb:∀ {b:Addr} {xs:List V},H b=some (.lst xs)→b≠a.bd:=fun e=>ne_of e hk (by intro z; cases z)
   refine tail a _ rfl rfl (s0.put N.bd) N ⟨by rw [upd_ne (nb S.codes)]; exact S.codes,⟨_,upd_same,?_,fun m=>?_⟩,⟨by rw [upd_ne (nb S.hOuts.1)]; exact S.hOuts.1,by rw [eo]; exact S.hOuts.2.1,fun i o p e1 e2=>?_⟩,⟨by rw [upd_ne (nb S.hRaces.1)]; exact S.hRaces.1,by rw [er,S.hRaces.2.1,hrc],fun k x ls e1 e2=>?_⟩,S.nel,S.ned,S.nea,S.hav⟩ (by rw [upd_ne (ne_of hS hk (by intro z; cases z))]; exact hS)
   ·rw [putK_new _ hnv,List.length_append,hkl,eb,List.length_append]
    rfl
   ·rw [valV_put,eb]
    by_cases e:m=n
    ·subst e
     rw [if_pos rfl,idx_self hnb,hkl]
     rfl
    ·rw [if_neg (fun z=>e (strOf_inj (Sum.inr.inj z))),idx_other e,hkv]
   ·rw [eo] at e2
    have:=S.hOuts.2.2 i o p e1 e2
    rw [upd_ne (ne_of this hk (by intro z; cases z))]
    exact this
   ·rw [er] at e2
    simp at e2
  | _=>cases h
 intro h1
 ((try dsimp only [tSeq,tNext,gName]); apply rd_if; exact (evt_test (ev_eq (L.evWord T (ev_var rfl)) ev_c)))
 ·intro h
  rw [is_out] at h
  cases l with
  | out r k =>
   rw [Rc.stands_out F] at w1
   have hrc:races c=[]:=by
    cases e:races c with
    | nil=>rfl
    | cons x r=>rw [e] at w1; simp at w1
   have hn:=L.nums
   refine ⟨_,rfl,a.o,_,dS,_,_,rfl,hS,T.Series.cl,T.a_Series_outs,ser_outs _ _ _ _ _,.inl ⟨rfl,_,SqL.of S.hOuts.1⟩,?_⟩
   refine ⟨_,rfl,lo,_,dL,_,_,rfl,hL,T.Line.cl,T.a_Line_numbers,line_nums _ _ _,na,_,_,_,rfl,rfl,SqL.of hn,at_ix (j:=0) rfl rfl,?_⟩
   refine ⟨_,rfl,lo,_,dL,_,_,rfl,hL,T.Line.cl,T.a_Line_numbers,line_nums _ _ _,na,_,_,_,rfl,rfl,SqL.of hn,at_ix (j:=1) rfl rfl,(by show 2≤sizeLine; decide),fun p hp=>?_⟩
   have hop:a.od≠p:=ne_of_none S.hOuts.1 hp
   refine ⟨a.od,_,_,rfl,rfl,by rw [upd_ne hop]; exact S.hOuts.1,?_,?_⟩
   ·rw [List.length_map,S.hOuts.2.1]
    exact line10' (by have:=F.no; omega)
   have eb:boats (c++[.out r k])=boats c:=by rw [Rc.boats_snoc]; simp
   have eo:outs (c++[.out r k])=outs c++[(r,k)]:=Rc.outs_snoc c _
   have er:races (c++[.out r k])=[]:=by rw [Rc.races_line (by simp),hrc]; rfl
   have hpn:H0 p=none:=s0.free hp
   have kp:∀ {b:Addr} {o:HO},H b=some o→b≠a.od→(upd (upd H p (.tup [.int (r:Int),.int (k:Int)])) a.od (.lst (a.os.map V.ref++[.ref p]))) b=some o:=fun {b o} e hb=>by
    rw [upd_ne hb,upd_ne (ne_of_none e hp)]
    exact e
   obtain ⟨kvs,hk,hkl,hkv⟩:=S.hBoats
   refine tail { a with os:=a.os++[p] } _ rfl rfl ((s0.put hpn).put N.od) ⟨N.o,N.cd,N.bd,N.od,N.rl,N.rs,N.av⟩ ⟨kp S.codes S.nel.1,⟨kvs,kp hk (ne_of hk S.hOuts.1 (by intro z; cases z)),by rw [eb]; exact hkl,fun m=>by rw [eb]; exact hkv m⟩,⟨?_,?_,fun i o x e1 e2=>?_⟩,⟨kp S.hRaces.1 (Ne.symm S.nel.2.2),by rw [er]; show a.rs.length=_; rw [S.hRaces.2.1,hrc],fun k x ls e1 e2=>?_⟩,S.nel,S.ned,S.nea,S.hav⟩ (kp hS (ne_of hS S.hOuts.1 (by intro z; cases z)))
   ·rw [upd_same,List.map_append]
    rfl
   ·rw [eo,List.length_append,List.length_append,S.hOuts.2.1]
    rfl
   ·rw [eo] at e2
    have e1:(a.os++[p])[i]?=some o:=e1
    by_cases hi:i < a.os.length
    ·rw [List.getElem?_append_left hi] at e1
     rw [List.getElem?_append_left (by rw [←S.hOuts.2.1]; exact hi)] at e2
     have:=S.hOuts.2.2 i o x e1 e2
     exact kp this (ne_of this S.hOuts.1 (by intro z; cases z))
    ·have hi2:=(List.getElem?_eq_some_iff.mp e1).1
     rw [List.length_append] at hi2
     have ei:i=a.os.length:=by
      have:([p]:List Addr).length=1:=rfl
      omega
     subst ei
     rw [List.getElem?_append_right (Nat.le_refl _),Nat.sub_self] at e1
     rw [S.hOuts.2.1,List.getElem?_append_right (Nat.le_refl _),Nat.sub_self] at e2
     cases e1
     cases e2
     rw [upd_ne (Ne.symm hop),upd_same]
     rfl
   ·rw [er] at e2
    simp at e2
  | _=>cases h
 intro h2
 ((try dsimp only [tSeq,tNext,gName]); apply rd_if; exact (evt_test (ev_eq (L.evWord T (ev_var rfl)) ev_c)))
 ·intro h
  rw [is_race] at h
  cases l with
  | race =>
   refine ⟨_,rfl,a.o,_,dS,_,_,rfl,hS,T.Series.cl,T.a_Series_races,ser_races _ _ _ _ _,.inl ⟨rfl,_,SqL.of S.hRaces.1⟩,?_⟩
   refine made_race fun x H1 NR=>?_
   have S1:=S.keep (Kp.of NR.same)
   refine ⟨a.rl,_,_,rfl,rfl,S1.hRaces.1,?_,?_⟩
   ·rw [List.length_map,S.hRaces.2.1]
    exact line10' (by have:=F.nr; omega)
   have eb:boats (c++[.race])=boats c:=by rw [Rc.boats_snoc]; simp
   have eo:outs (c++[.race])=outs c:=by rw [Rc.outs_snoc]; simp
   have er:races (c++[.race])=races c++[[]]:=Rc.races_race c
   have kp:∀ {b:Addr} {o:HO},H1 b=some o→b≠a.rl→(upd H1 a.rl (.lst ((a.rs.map fun x=>V.ref x.o)++[.ref x.o]))) b=some o:=fun {b o} e hb=>by
    rw [upd_ne hb]
    exact e
   obtain ⟨kvs,hk,hkl,hkv⟩:=S1.hBoats
   have hrl:=S1.hRaces.1
   have off:∀ z ls,RaceAt T.Race.C a.okn H1 (boats c) c.length ls z→RaceAt T.Race.C a.okn (upd H1 a.rl (.lst ((a.rs.map fun x=>V.ref x.o)++[.ref x.o]))) (boats c) (c++[Line.race]).length ls z:=fun z ls Rz=>by
    obtain ⟨⟨dz,z1⟩,⟨k1,z2,_⟩,⟨k2,z3,_⟩,_⟩:=id Rz
    exact (Rz.upd (ne_of z1 hrl (by intro z; cases z)) (ne_of z2 hrl (by intro z; cases z)) (ne_of z3 hrl (by intro z; cases z)) (fun t xs e=>ne_of e hrl (by intro z; cases z)) fun na xs e _=>e.2.2.1).mono (by rw [List.length_append]; exact Nat.le_add_right _ _)
   have Rx:RaceAt T.Race.C a.okn H1 (boats c) c.length [] x:=⟨NR.obj,⟨[],NR.hr,Nat.zero_le _,fun i n _=>trivial⟩,⟨[],NR.hp,Nat.zero_le _,fun i n _=>rfl⟩,NR.ne⟩
   have s1:Same H0 H1:=s0.trans NR.same
   refine tail { a with rs:=a.rs++[x] } _ rfl rfl (s1.put N.rl) ⟨N.o,N.cd,N.bd,N.od,N.rl,fun y hy=>?_,N.av⟩ ⟨kp S1.codes S.nel.2.1,⟨kvs,kp hk (ne_of hk hrl (by intro z; cases z)),by rw [eb]; exact hkl,fun m=>by rw [eb]; exact hkv m⟩,⟨kp S1.hOuts.1 S.nel.2.2,by rw [eo]; exact S.hOuts.2.1,fun i o p e1 e2=>?_⟩,⟨?_,?_,fun k y ls e1 e2=>?_⟩,S.nel,fun y hy=>?_,?_,S.hav⟩ (kp (NR.same _ _ hS) (ne_of (NR.same _ _ hS) hrl (by intro z; cases z)))
   ·rcases List.mem_append.mp (show y∈a.rs++[x] from hy) with hy | hy
    ·exact N.rs y hy
    ·rw [List.mem_singleton.mp hy]
     exact ⟨s0.free NR.o,s0.free NR.rd,s0.free NR.pd⟩
   ·rw [eo] at e2
    have:=S1.hOuts.2.2 i o p e1 e2
    exact kp this (ne_of this hrl (by intro z; cases z))
   ·rw [upd_same,List.map_append]
    rfl
   ·rw [er,List.length_append,List.length_append,S.hRaces.2.1]
    rfl
   ·rw [er] at e2
    rw [eb]
    have e1:(a.rs++[x])[k]?=some y:=e1
    by_cases hi:k < a.rs.length
    ·rw [List.getElem?_append_left hi] at e1
     rw [List.getElem?_append_left (by rw [←S.hRaces.2.1]; exact hi)] at e2
     exact off _ _ (S1.hRaces.2.2 k y ls e1 e2)
    ·have hi2:=(List.getElem?_eq_some_iff.mp e1).1
     rw [List.length_append] at hi2
     have ei:k=a.rs.length:=by
      have:([x]:List RaceAd).length=1:=rfl
      omega
     subst ei
     rw [List.getElem?_append_right (Nat.le_refl _),Nat.sub_self] at e1
     rw [S.hRaces.2.1,List.getElem?_append_right (Nat.le_refl _),Nat.sub_self] at e2
     cases e1
     cases e2
     exact off _ _ Rx
   ·rcases List.mem_append.mp (show y∈a.rs++[x] from hy) with hy | hy
    ·exact S.ned y hy
    ·rw [List.mem_singleton.mp hy]
     obtain ⟨kvs,hk,_⟩:=S.hBoats
     exact ⟨(ne_of_none hk NR.rd).symm,(ne_of_none hk NR.pd).symm⟩
   ·refine List.pairwise_append.mpr ⟨S.nea,List.pairwise_singleton _ _,fun z hz z' hz'=>?_⟩
    rw [List.mem_singleton.mp hz']
    obtain ⟨j,hj⟩:=List.getElem?_of_mem hz
    have hjl:j < (races c).length:=by
     have:=(List.getElem?_eq_some_iff.mp hj).1
     rw [S.hRaces.2.1] at this
     exact this
    obtain ⟨_,⟨k1,z2,_⟩,⟨k2,z3,_⟩,_⟩:=S.hRaces.2.2 j z _ hj (List.getElem?_eq_getElem hjl)
    exact ⟨ne_of_none z2 NR.rd,ne_of_none z2 NR.pd,ne_of_none z3 NR.rd,ne_of_none z3 NR.pd⟩
  | _=>cases h
 intro h3
 rw [is_boat] at h1
 rw [is_out] at h2
 rw [is_race] at h3
 have hin:Rc.inRace l=true:=by
  cases l with
  | boat _=>cases h1
  | out _ _=>cases h2
  | race=>cases h3
  | _=>rfl
 have hlr:l≠.race:=fun z=>by rw [z] at hin; cases hin
 obtain ⟨kvs,i,rs,x,r,ls,hk,ev,hi,e1,e2,e3,R,e4⟩:=S.line_at T hin w1
 have eb:boats (c++[l])=boats c:=by rw [Rc.boats_snoc]; cases l <;> cases hin <;> simp
 have eo:outs (c++[l])=outs c:=by rw [Rc.outs_snoc]; cases l <;> cases hin <;> simp
 have er:races (c++[l])=r++[ls++[l]]:=by rw [Rc.races_line hlr,e2,Rc.addLast_append]
 rw [Rc.clash_in hin] at w2
 obtain ⟨kvs',hk',hkl,hkv⟩:=S.hBoats
 have hlen1:c.length≤(c++[l]).length:=by rw [List.length_append]; exact Nat.le_add_right _ _
 have xm:x∈a.rs:=by rw [e1]; exact List.mem_append_right _ List.mem_cons_self
 have split:∀ (j:Nat) (y:RaceAd) (ls':List Line),a.rs[j]?=some y→(races (c++[l]))[j]?=some ls'→(Apart y x∧RaceAt T.Race.C a.okn H (boats c) c.length ls' y)∨(y=x∧ls'=ls++[l]):=fun j y ls' g1 g2=>by
  rw [er] at g2
  have hS3:=S.hRaces.2.2 j y
  rw [e2] at hS3
  by_cases hj:j < rs.length
  ·left
   have g1':=g1
   rw [e1,List.getElem?_append_left hj] at g1'
   rw [List.getElem?_append_left (by omega)] at g2
   refine ⟨?_,hS3 ls' g1 (by rw [List.getElem?_append_left (by omega)]; exact g2)⟩
   have hp:=S.nea
   rw [e1] at hp
   exact (List.pairwise_append.mp hp).2.2 y (List.mem_of_getElem? g1') x List.mem_cons_self
  ·right
   have hj2:=(List.getElem?_eq_some_iff.mp g1).1
   have hje:j=rs.length:=by
    have z:=congrArg List.length e1
    rw [List.length_append] at z
    have:([x]:List RaceAd).length=1:=rfl
    omega
   subst hje
   rw [e1,List.getElem?_append_right (Nat.le_refl _),Nat.sub_self] at g1
   rw [e3,List.getElem?_append_right (Nat.le_refl _),Nat.sub_self] at g2
   cases g1
   cases g2
   exact ⟨rfl,rfl⟩
 have hnm:=name_in hin
 obtain ⟨⟨dx,ho⟩,⟨kr,hkr,hkrl,hres⟩,⟨kpn,hkp,hkpl,hpen⟩,hrp⟩:=id R
 have EN:∀ (σ:L2.St) (H':Hp),Same H H'→σ[1]?=some (some (V.ref lo))→Ev (tFld K (tVar 1) "name") σ H' (kV (Sum.inr (strOf (Rc.nameOf l)))):=fun σ H' sm e=>by
  rw [←hnm]
  exact (L.keep (Kp.of sm)).evName T (ev_var e)
 have nodup:∀ (j:Nat) (m:Name),(boats c)[j]?=some m→(j=i↔m=Rc.nameOf l):=fun j m hj=>by
  constructor
  ·intro z
   rw [z,hi] at hj
   exact (Option.some.inj hj).symm
  ·intro z
   rw [z] at hj
   exact nd_ix F.nd hj hi
 ((try dsimp only [tSeq,tNext,gName]); apply rd_if; exact (evt_test (ev_eq (L.evWord T (ev_var rfl)) ev_c)))
 ·intro h
  rw [is_pen] at h
  cases l with
  | pen n k =>
   have hn:=L.nums
   refine ⟨_,rfl,lo,_,dL,_,_,rfl,hL,T.Line.cl,T.a_Line_numbers,line_nums _ _ _,na,_,_,_,rfl,rfl,SqL.of hn,at_ix (j:=0) rfl rfl,?_⟩
   refine ev_fld (S.evLast T e1 (ev_var rfl)) ho T.Race.cl T.a_Race_pens (race_pens _ _) _ ?_
   refine ev_dget (S.evBoats T (ev_var rfl)) (EN _ _ (Same.refl H) rfl) hk ev _ ?_
   refine ⟨x.pd,_,rfl,DPut.k (k:=Sum.inl (i:Int)) hkp (line10' (by omega)),?_⟩
   have hnone:penOf ls n=none:=by
    have z:(penOf (thisRace c) n).isSome=false:=w2
    rw [e4] at z
    cases y:penOf ls n with
    | none=>rfl
    | some _=>rw [y] at z; cases z
   have hvn:valV kpn (Sum.inl (i:Int))=none:=by rw [hpen i _ hi]; show (penOf ls n).map natV=none; rw [hnone]; rfl
   have kp:∀ {b:Addr} {o:HO},H b=some o→b≠x.pd→(upd H x.pd (.dK (putK kpn (Sum.inl (i:Int)) (.int (k:Int))))) b=some o:=fun {b o} e hb=>by
    rw [upd_ne hb]
    exact e
   refine tail a _ rfl rfl (s0.put (N.rs x xm).2.2) N ⟨kp S.codes (ne_of S.codes hkp (by intro z; cases z)),⟨kvs',kp hk' (Ne.symm (S.ned x xm).2),by rw [eb]; exact hkl,fun m=>by rw [eb]; exact hkv m⟩,⟨kp S.hOuts.1 (ne_of S.hOuts.1 hkp (by intro z; cases z)),by rw [eo]; exact S.hOuts.2.1,fun j o p g1 g2=>?_⟩,⟨kp S.hRaces.1 (ne_of S.hRaces.1 hkp (by intro z; cases z)),by rw [er,S.hRaces.2.1,e2,List.length_append,List.length_append]; rfl,fun j y ls' g1 g2=>?_⟩,S.nel,S.ned,S.nea,S.hav⟩ (kp hS (ne_of hS hkp (by intro z; cases z)))
   ·rw [eo] at g2
    have:=S.hOuts.2.2 j o p g1 g2
    exact kp this (ne_of this hkp (by intro z; cases z))
   ·rw [eb]
    rcases split j y ls' g1 g2 with ⟨ap,Ry⟩ | ⟨rfl,rfl⟩
    ·obtain ⟨⟨dz,z1⟩,_⟩:=id Ry
     exact (Ry.upd (ne_of z1 hkp (by intro z; cases z)) ap.2.1 ap.2.2.2 (fun t xs e=>ne_of e hkp (by intro z; cases z)) fun na xs _ e=>ne_of e hkp (by intro z; cases z)).mono hlen1
    ·refine ⟨⟨dx,kp ho (ne_of ho hkp (by intro z; cases z))⟩,⟨kr,kp hkr hrp,Nat.le_trans hkrl hlen1,fun j m hj=>?_⟩,⟨_,upd_same,?_,fun j m hj=>?_⟩,hrp⟩
     ·have eown:ownOf (ls++[.pen n k]) m=ownOf ls m:=by rw [Rc.ownOf_snoc]; show (ownOf ls m).or none=_; cases ownOf ls m <;> rfl
      rw [eown]
      exact (hres j m hj).upd (fun t xs e=>ne_of e hkp (by intro z; cases z)) fun na xs _ e=>ne_of e hkp (by intro z; cases z)
     ·rw [putK_new _ hvn,List.length_append,List.length_append]
      exact Nat.add_le_add_right hkpl 1
     ·rw [valV_put,Rc.penOf_snoc]
      by_cases z:j=i
      ·have zm:m=n:=(nodup j m hj).mp z
       subst zm
       rw [if_pos (by rw [z]),hnone]
       show some (V.int (k:Int))=((none:Option Nat).or (if m=m then some k else none)).map natV
       rw [if_pos rfl]
       rfl
      ·have zm:¬ n=m:=fun y=>z ((nodup j m hj).mpr y.symm)
       rw [if_neg (fun y=>z (by injection y with y; omega))]
       show valV kpn (Sum.inl (j:Int))=((penOf ls m).or (if n=m then some k else none)).map natV
       rw [if_neg zm,hpen j m hj]
       cases penOf ls m <;> rfl
  | _=>cases h
 intro h4
 rw [is_pen] at h4
 have hown:∀ m,Rc.ownLine m l=decide (Rc.nameOf l=m):=fun m=>by
  cases l with
  | boat _=>cases h1
  | out _ _=>cases h2
  | race=>cases h3
  | pen _ _=>cases h4
  | place n p s=>show (n==m)=decide (n=m); rw [Bool.eq_iff_iff]; simp
  | miss n=>show (n==m)=decide (n=m); rw [Bool.eq_iff_iff]; simp
  | dis n=>show (n==m)=decide (n=m); rw [Bool.eq_iff_iff]; simp
  | avg n=>show (n==m)=decide (n=m); rw [Bool.eq_iff_iff]; simp
 have hpn:∀ m,penOf (ls++[l]) m=penOf ls m:=fun m=>by
  rw [Rc.penOf_snoc]
  cases l with
  | pen _ _=>cases h4
  | _=>simp
 have hnone:ownOf ls (Rc.nameOf l)=none:=by
  have z:(ownOf (thisRace c) (Rc.nameOf l)).isSome=false:=by
   cases l with
   | boat _=>cases h1
   | out _ _=>cases h2
   | race=>cases h3
   | pen _ _=>cases h4
   | place n p s =>
    have w2':((ownOf (thisRace c) n).isSome || decide ((boats c).length < p + s - 1))=false:=w2
    exact (Bool.or_eq_false_iff.mp w2').1
   | miss n=>exact w2
   | dis n=>exact w2
   | avg n=>exact w2
  rw [e4] at z
  cases y:ownOf ls (Rc.nameOf l) with
  | none=>rfl
  | some _=>rw [y] at z; cases z
 have hvn:valV kr (Sum.inl (i:Int))=none:=by
  have:=(hres i _ hi).some_iff
  rw [hnone] at this
  cases y:valV kr (Sum.inl (i:Int)) with
  | none=>rfl
  | some _=>rw [y] at this; cases this
 refine ⟨_,rfl,lo,_,dL,_,_,rfl,hL,T.Line.cl,T.a_Line_word,line_word _ _ _,?_⟩
 refine ⟨_,rfl,lo,_,dL,_,_,rfl,hL,T.Line.cl,T.a_Line_numbers,line_nums _ _ _,(by show 2≤sizeLine; decide),fun p hp=>?_⟩
 have sp:Same H (upd H p (.tup [.str (strOf (Rc.lineP l).1),.ref na])):=Same.new hp
 have S2:=S.keep (Kp.of sp)
 refine ev_fld (S2.evLast T e1 (ev_var rfl)) (sp _ _ ho) T.Race.cl T.a_Race_results (race_res _ _) _ ?_
 refine ev_dget (S2.evBoats T (ev_var rfl)) (EN _ _ sp rfl) (sp _ _ hk) ev _ ?_
 refine ⟨x.rd,_,rfl,DPut.k (k:=Sum.inl (i:Int)) (sp _ _ hkr) (line10' (by omega)),?_⟩
 have kp:∀ {b:Addr} {o:HO},H b=some o→b≠x.rd→(upd (upd H p (.tup [.str (strOf (Rc.lineP l).1),.ref na])) x.rd (.dK (putK kr (Sum.inl (i:Int)) (.ref p)))) b=some o:=fun {b o} e hb=>by
  rw [upd_ne hb]
  exact sp _ _ e
 have hpx:p≠x.rd:=(ne_of_none hkr hp).symm
 have off:∀ {v:Option V} {o:Option Line},ResV a.okn H v o→ResV a.okn (upd (upd H p (.tup [.str (strOf (Rc.lineP l).1),.ref na])) x.rd (.dK (putK kr (Sum.inl (i:Int)) (.ref p)))) v o:=fun h=>(h.keep (Kp.of sp)).upd (fun t xs e=>ne_of e (sp _ _ hkr) (by intro z; cases z)) fun na xs _ e=>ne_of e (sp _ _ hkr) (by intro z; cases z)
 refine tail a _ rfl rfl ((s0.put (s0.free hp)).put (N.rs x xm).2.1) N ⟨kp S.codes (ne_of S.codes hkr (by intro z; cases z)),⟨kvs',kp hk' (Ne.symm (S.ned x xm).1),by rw [eb]; exact hkl,fun m=>by rw [eb]; exact hkv m⟩,⟨kp S.hOuts.1 (ne_of S.hOuts.1 hkr (by intro z; cases z)),by rw [eo]; exact S.hOuts.2.1,fun j o p g1 g2=>?_⟩,⟨kp S.hRaces.1 (ne_of S.hRaces.1 hkr (by intro z; cases z)),by rw [er,S.hRaces.2.1,e2,List.length_append,List.length_append]; rfl,fun j y ls' g1 g2=>?_⟩,S.nel,S.ned,S.nea,S.hav⟩ (kp hS (ne_of hS hkr (by intro z; cases z)))
 ·rw [eo] at g2
  have:=S.hOuts.2.2 j o p g1 g2
  exact kp this (ne_of this hkr (by intro z; cases z))
 ·rw [eb]
  rcases split j y ls' g1 g2 with ⟨ap,Ry⟩ | ⟨rfl,rfl⟩
  ·obtain ⟨⟨dz,z1⟩,_⟩:=id Ry
   exact ((Ry.keep (Kp.of sp)).upd (ne_of z1 hkr (by intro z; cases z)) ap.1 ap.2.2.1 (fun t xs e=>ne_of e (sp _ _ hkr) (by intro z; cases z)) fun na xs _ e=>ne_of e (sp _ _ hkr) (by intro z; cases z)).mono hlen1
  ·refine ⟨⟨dx,kp ho (ne_of ho hkr (by intro z; cases z))⟩,⟨_,upd_same,?_,fun j m hj=>?_⟩,⟨kpn,kp hkp (Ne.symm hrp),Nat.le_trans hkpl hlen1,fun j m hj=>by rw [hpn]; exact hpen j m hj⟩,hrp⟩
   ·rw [putK_new _ hvn,List.length_append,List.length_append]
    exact Nat.add_le_add_right hkrl 1
   ·rw [valV_put,Rc.ownOf_snoc,hown]
    by_cases z:j=i
    ·have zm:=(nodup j m hj).mp z
     rw [if_pos (show (Sum.inl (j:Int):Key)=Sum.inl (i:Int) by rw [z]),zm,hnone,decide_eq_true rfl,if_pos rfl]
     exact ⟨p,na,rfl,by rw [upd_ne hpx]; exact upd_same,kp L.nums (ne_of L.nums hkr (by intro z; cases z)),hna⟩
    ·have zm:¬ Rc.nameOf l=m:=fun y=>z ((nodup j m hj).mpr y.symm)
     rw [if_neg (fun y=>z (by injection y with y; omega)),decide_eq_false zm,if_neg Bool.false_ne_true,Option.or_none]
     exact off (hres j m hj)
end
end Rv
end
section
namespace Rv
open PySem PySem.Spec PyProof.Rows L2
open RgScore (Bytes Name Line Series boats outs races ownOf penOf ascii thisRace stands wrongOf tooMany)
section
variable {P:Program} {w:World} {K:PySem.W.Frag} {mg:Str→Option Value} {base:Heap}
theorem SerAt.more {cR cS:Addr} {H:Hp} {a:SerAd} {c:Series} {t u:Bytes} (S:SerAt cR cS H a c t):SerAt cR cS (upd H a.cd (.lst (bytesV u))) a c u:=by
 obtain ⟨g,⟨dx,h1⟩,h2,⟨kb,h3,h4,h5⟩,⟨h6,h7,h8⟩,⟨h9,h10,h11⟩,h12,h13,h14,h15⟩:=S
 have ni:∀ {b C d:Addr} {fs:List (Str×V)},H b=some (.ins C d fs)→b≠a.cd:=fun e=>ne_of e h2 (by intro z; cases z)
 have nt:∀ {b:Addr} {xs:List V},H b=some (.tup xs)→b≠a.cd:=fun e=>ne_of e h2 (by intro z; cases z)
 have nk:∀ {b:Addr} {xs:List (Key×V)},H b=some (.dK xs)→b≠a.cd:=fun e=>ne_of e h2 (by intro z; cases z)
 refine ⟨g,⟨dx,by rw [upd_ne (ni h1)]; exact h1⟩,upd_same,⟨kb,by rw [upd_ne (nk h3)]; exact h3,h4,h5⟩,⟨by rw [upd_ne (Ne.symm h12.1)]; exact h6,h7,fun i o p e1 e2=>by rw [upd_ne (nt (h8 i o p e1 e2))]; exact h8 i o p e1 e2⟩,⟨by rw [upd_ne (Ne.symm h12.2.1)]; exact h9,h10,fun k x ls e1 e2=>?_⟩,h12,h13,h14,h15⟩
 have R:=h11 k x ls e1 e2
 obtain ⟨⟨dz,z1⟩,⟨k1,z2,_⟩,⟨k2,z3,_⟩,_⟩:=id R
 exact R.upd (ni z1) (nk z2) (nk z3) (fun t xs e=>nt e) fun na xs e _=>e.1
def Ran (T:Tx P w K mg) (H0:Hp) (a:SerAd) (t u:Bytes) (Q:VK):Except (Nat×Nat) Series→Prop
 | .ok d=>∀ (a':SerAd) (H':Hp),a'.o=a.o→a'.av=a.av→Same H0 H'→SerNew H0 a'→SerAt T.Race.C T.Series.C H' a' d (t++u)→Q (.int 0) H'
 | .error (k,y)=>∀ (a':SerAd) (H':Hp) (c':Series),a'.o=a.o→Same H0 H'→SerAt T.Race.C T.Series.C H' a' c' t→c'.length=k→y≠0→Q (natV y) H'
def spAdd (T:Tx P w K mg):Sp:=fun vs H Q _=>∃ (H0:Hp) (a:SerAd) (c:Series) (t u:Bytes) (cc:Addr),vs=[.ref a.o,.ref cc]∧Same H0 H∧SerNew H0 a∧SerAt T.Race.C T.Series.C H a c t∧H0 cc=some (.lst (bytesV u))∧t.length + u.length≤70000∧c.length + u.length≤70000∧Ran T H0 a t u Q (Rc.runB c [] u)
theorem scAdd:FnScope ["series","codes","row","code","line","why"] ["series","codes"] (defScope s_add_text):=⟨rfl,rfl,rfl,by decide +kernel,rfl,by decide +kernel,by decide +kernel⟩
theorem bytesV_len (b:Bytes):(bytesV b).length=b.length:=by unfold bytesV; rw [List.length_map]
theorem bytesV_cat (a b:Bytes):bytesV a++bytesV b=bytesV (a++b):=by unfold bytesV; rw [List.map_append]
theorem feed_iff (x:UInt8):decide (V.int (x.toNat:Int)=V.int 10)=decide (x=10):=by
 rw [Bool.eq_iff_iff,decide_eq_true_eq,decide_eq_true_eq]
 constructor
 ·intro h
  injection h with h
  exact UInt8.toNat_inj.mp (by have:(10:UInt8).toNat=10:=rfl; omega)
 ·intro h
  rw [h]
  rfl
theorem run_nil (c:Series) (row:Bytes):Rc.runB c row []=if row=[] then .ok c else .error (c.length,1):=by rw [Rc.runB]
theorem run_cons (c:Series) (row:Bytes) (x:UInt8) (r:Bytes):Rc.runB c row (x::r)=if x=10 then (match RgScore.lineIn row with | none=>.error (c.length,1) | some l=>if wrongOf c l=0 then Rc.runB (c++[l]) [] r else .error (c.length,wrongOf c l)) else Rc.runB c (row++[x]) r:=by rw [Rc.runB] <;> rfl
theorem ok_add (T:Tx P w K mg):FnOk P w K mg base CX0 5 T.add_text.f T.add_text.fd ["series","codes"] (spAdd T):=by
 have nd:=scAdd.nd
 have G1:=ok_read (base:=base) T
 have G2:=ok_why (base:=base) T
 have G3:=ok_put (base:=base) T
 refine T.add_text.fn.ok scAdd (fun vs H Q E h=>?_) (fun cdv A outer s H vs Q E hr h=>?_)
 ·obtain ⟨H0,a,c,t,u,cc,rfl,_⟩:=h
  rfl
 obtain ⟨H0,a,c,t,u,cc,rfl,s0,N,S,hcc,hz1,hz2,ran⟩:=h
 refine ⟨_,pss_cons (ps_set (i:=2) nd rfl (Or.inl rfl) (pe_lst pa_nil))
  (pss_cons (ps_for PassesOwn.never rfl (pi_list (pv 1)) (pg_name (i:=3) nd rfl (Or.inl rfl))
   (pss_one (ps_if (pt_cmpR op_eq (pv 3) (pe_gi T.g_LINE_FEED rfl) (nomark _))
    (pss_cons (ps_set (i:=4) nd rfl (Or.inl rfl) (pe_call G1 (hr.mono (by decide)) rfl T.read_line.gl T.read_line.fn.kp T.read_line.bd .nil pass0 (pa_cons (pv 2) pa_nil)))
    (pss_cons (ps_set (i:=5) nd rfl (Or.inl rfl) (pe_call G2 (hr.mono (by decide)) rfl T.why_wrong.gl T.why_wrong.fn.kp T.why_wrong.bd .nil pass0 (pa_cons (pv 0) (pa_cons (pv 4) pa_nil))))
    (pss_cons (ps_if (pt_cmpR op_ne (pv 5) (pe_gi T.g_RIGHT rfl) (nomark _)) (pss_one (ps_ret (pv 5))) pss_nil)
    (pss_cons (ps_expr (pe_call G3 (hr.mono (by decide)) rfl T.put_line.gl T.put_line.fn.kp T.put_line.bd .nil pass0 (pa_cons (pv 0) (pa_cons (pv 4) pa_nil))))
    (pss_one (ps_set (i:=2) nd rfl (Or.inl rfl) (pe_lst pa_nil)))))))
    (pss_one (ps_expr (pe_bm PySem.F.plainAttrs_list PySem.F.slot_list_append PySem.F.type_list_append mt_append (pv 2) (pa_cons (pv 3) pa_nil)))))))
  (pss_cons (ps_if (pt_cmpR op_gt (pe_callB call_len_seq (by rfl) T.n_len PySem.boot_len (pa_cons (pv 2) pa_nil)) pe_int (nomark _)) (pss_one (ps_ret (pe_gi T.g_NOT_FORMED rfl))) pss_nil)
  (pss_cons (ps_expr (pe_bm PySem.F.plainAttrs_list PySem.F.slot_list_extend PySem.F.type_list_extend mt_extend (pe_fld (pv 0) rfl) (pa_cons (pv 1) pa_nil)))
  (pss_one (ps_ret (pe_gi T.g_RIGHT rfl)))))),?_⟩
 refine ⟨Nat.zero_le _,fun r0 hr0=>?_⟩
 have hccH:=s0 _ _ hcc
 refine ⟨_,rfl,cc,rfl,⟨_,SqL.of ((Same.new hr0) _ _ hccH)⟩,for_list (K:=K) (a:=cc) (xs:=bytesV u) (fun i σ H'=>∃ (a':SerAd) (c':Series) (row:Bytes) (rl:Addr) (v3 v4 v5:Option V) (Hs:Hp),σ=[some (.ref a.o),some (.ref cc),some (.ref rl),v3,v4,v5] ∧
   (a'.o=a.o∧a'.av=a.av)∧Same H0 Hs∧SerNew H0 a'∧SerAt T.Race.C T.Series.C Hs a' c' t∧Hs rl=none∧Same Hs H'∧H' rl=some (.lst (bytesV row))∧Rc.runB c [] u=Rc.runB c' row (u.drop i)∧c'.length≤c.length + i∧row.length≤i)
  ⟨a,c,[],r0,none,none,none,H,rfl,⟨rfl,rfl⟩,s0,N,S,hr0,Same.new hr0,upd_same,rfl,Nat.le_refl _,Nat.le_refl _⟩ (fun i σ H' _ ⟨_,_,_,_,_,_,_,_,_,_,g1,_,_,_,g2,_⟩=>SqL.of (g2 _ _ (g1 _ _ hcc))) ?_ ?_⟩
 ·rintro i y σ H' hy ⟨a',c',row,rl,v3,v4,v5,Hs,rfl,⟨ea,eav⟩,g1,g2,g3,g4,g5,g6,g7,g8,g9⟩
  obtain ⟨x,hx,rfl⟩:=bytesV_get hy
  have hil:i < u.length:=(List.getElem?_eq_some_iff.mp hx).1
  have hd:u.drop i=x::u.drop (i + 1):=by
   rw [List.drop_eq_getElem_cons hil]
   congr 1
   rw [List.getElem?_eq_getElem hil] at hx
   exact Option.some.inj hx
  rw [hd] at g7
  ((try dsimp only [tSeq,tNext,gName]); apply rd_if; exact (evt_test (ev_eq (ev_var rfl) ev_c)))
  ·intro h
   rw [feed_iff,decide_eq_true_eq] at h
   replace g7:=g7.trans (run_cons _ _ _ _)
   rw [if_pos h] at g7
   refine ⟨_,rfl,rl,row,rfl,g6,by omega,fun e H1 s1=>?_,fun t3 e H1 lo na s1 hlo hna L=>?_⟩
   ·have en:RgScore.lineIn row=none:=by
     have z:=Rc.readB_eq row
     rw [e] at z
     cases y:RgScore.lineIn row with
     | none=>rfl
     | some l=>rw [y] at z; cases z
    rw [en] at g7
    refine ⟨_,rfl,_,rfl,a',.inl ⟨by rw [←ea]; rfl,?_⟩⟩
    rw [g7] at ran
    exact rd_if (b:=!decide (V.int 1=V.int 0)) (evt_test (ev_ne (ev_var rfl) ev_c)) (fun _=>⟨_,rfl,ran a' H1 c' ea (g1.trans (g5.trans s1)) (g3.keep (Kp.of (g5.trans s1))) rfl (by decide)⟩) fun h=>(by cases h)
   ·obtain ⟨l,hl,rfl⟩:∃ l,RgScore.lineIn row=some l∧Rc.lineP l=t3:=by
     have z:=Rc.readB_eq row
     rw [e] at z
     cases y:RgScore.lineIn row with
     | none=>rw [y] at z; cases z
     | some l=>rw [y] at z; exact ⟨l,rfl,(Option.some.inj z).symm⟩
    rw [hl] at g7
    dsimp only at g7
    have S1:=g3.keep (Kp.of (g5.trans s1))
    refine ⟨_,rfl,_,rfl,a',.inr ⟨c',t,lo,na,l,by rw [←ea]; rfl,S1,L,fun H2 s2=>?_⟩⟩
    have S2:=S1.keep (Kp.of s2)
    have sH2:Same H0 H2:=(g1.trans (g5.trans s1)).trans s2
    by_cases hw:wrongOf c' l=0
    ·rw [if_pos hw] at g7
     rw [hw]
     refine rd_if (b:=!decide (natV 0=V.int 0)) (evt_test (ev_ne (ev_var rfl) ev_c)) (fun h=>(by cases h)) fun _=>?_
     have S':=g3.keep (Kp.of g5)
     have hokn:a'.okn na:=⟨(ne_of_none S'.codes hna).symm,(ne_of_none S'.hOuts.1 hna).symm,(ne_of_none S'.hRaces.1 hna).symm,g2.av _ ((g1.trans g5).free hna)⟩
     refine ⟨_,rfl,_,rfl,H0,a',c',t,lo,na,l,by rw [←ea]; rfl,sH2,g2,S2,L.keep (Kp.of s2),hokn,(Rc.lineIn_some hl).1,hw,by omega,fun a2 H3 ea2 ev2 s3 N3 S3=>?_⟩
     refine ⟨Nat.zero_le _,fun r2 hr2=>?_⟩
     refine ⟨a2,c'++[l],[],r2,_,_,_,H3,rfl,⟨ea2.trans ea,ev2.trans eav⟩,s3,N3,S3,hr2,Same.new hr2,upd_same,g7,?_,Nat.zero_le _⟩
     rw [List.length_append]
     show c'.length + 1≤_
     omega
    ·rw [if_neg hw] at g7
     rw [g7] at ran
     refine rd_if (b:=!decide (natV (wrongOf c' l)=V.int 0)) (evt_test (ev_ne (ev_var rfl) ev_c)) (fun _=>⟨_,rfl,ran a' H2 c' ea sH2 S2 rfl hw⟩) fun h=>?_
     rw [dec_zero,decide_eq_false hw] at h
     cases h
  ·intro h
   rw [feed_iff,decide_eq_false_iff_not] at h
   replace g7:=g7.trans (run_cons _ _ _ _)
   rw [if_neg h] at g7
   refine ⟨_,rfl,.inl ⟨rfl,_,SqL.of g6⟩,_,rfl,rl,_,_,rfl,rfl,g6,by rw [bytesV_len]; exact line10' (by omega),?_⟩
   refine ⟨a',c',row++[x],rl,_,_,_,Hs,rfl,⟨ea,eav⟩,g1,g2,g3,g4,g5.put g4,?_,g7,by omega,?_⟩
   ·rw [upd_same,←bytesV_cat]
    rfl
   ·rw [List.length_append]
    show row.length + 1≤i + 1
    omega
 ·rintro σ H' ⟨a',c',row,rl,v3,v4,v5,Hs,rfl,⟨ea,eav⟩,g1,g2,g3,g4,g5,g6,g7,g8,g9⟩
  rw [bytesV_len,List.drop_length] at g7
  have S':=g3.keep (Kp.of g5)
  have sH:Same H0 H':=g1.trans g5
  replace g7:=g7.trans (run_nil _ _)
  ((try dsimp only [tSeq,tNext,gName]); apply rd_if; exact (evt_test (ev_gt (ev_lenL (ev_var rfl) (SqL.of g6)) ev_c)))
  ·intro h
   rw [bytesV_len,dec_pos,decide_eq_true_eq] at h
   rw [if_neg (fun z=>by rw [z] at h; simp at h)] at g7
   rw [g7] at ran
   exact ran a' H' c' ea sH S' rfl (by decide)
  ·intro h
   rw [bytesV_len,dec_pos,decide_eq_false_iff_not] at h
   rw [if_pos (List.length_eq_zero_iff.mp (by omega))] at g7
   rw [g7] at ran
   obtain ⟨dS,hS⟩:=S'.obj
   rw [ea] at hS
   refine ⟨_,rfl,a.o,_,dS,_,_,rfl,hS,T.Series.cl,T.a_Series_codes,ser_codes _ _ _ _ _,.inl ⟨rfl,_,SqL.of S'.codes⟩,_,rfl,a'.cd,cc,_,_,rfl,rfl,S'.codes,sH _ _ hcc,by rw [bytesV_len,bytesV_len]; exact line10 (by omega),?_⟩
   rw [bytesV_cat]
   exact ran a' _ ea eav (sH.put g2.cd) g2 S'.more
end
end Rv
end
section
namespace Rv
open PySem PySem.Spec PyProof.Rows L2
open RgScore (Bytes Name Line Series boats outs races ownOf penOf ascii thisRace stands wrongOf tooMany seriesText)
theorem SerAt.offIns {cR cS:Addr} {H:Hp} {a:SerAd} {c:Series} {t:Bytes} {q C d:Addr} {fs:List (Str×V)} {o:HO} (S:SerAt cR cS H a c t) (hq:H q=some (.ins C d fs)) (hl:fs.length≤1):SerAt cR cS (upd H q o) a c t:=by
 obtain ⟨g,⟨dx,h1⟩,h2,⟨kb,h3,h4,h5⟩,⟨h6,h7,h8⟩,⟨h9,h10,h11⟩,h12,h13,h14,h15⟩:=S
 have nl:∀ {b:Addr} {xs:List V},H b=some (.lst xs)→b≠q:=fun e=>ne_of e hq (by intro z; cases z)
 have nt:∀ {b:Addr} {xs:List V},H b=some (.tup xs)→b≠q:=fun e=>ne_of e hq (by intro z; cases z)
 have nk:∀ {b:Addr} {xs:List (Key×V)},H b=some (.dK xs)→b≠q:=fun e=>ne_of e hq (by intro z; cases z)
 have ni:∀ {b C' d':Addr} {fs':List (Str×V)},2≤fs'.length→H b=some (.ins C' d' fs')→b≠q:=fun hf e=>ne_of e hq (by
  intro z
  injection z with _ _ z
  rw [z] at hf
  omega)
 refine ⟨g,⟨dx,by rw [upd_ne (ni (by show 2≤5; decide) h1)]; exact h1⟩,by rw [upd_ne (nl h2)]; exact h2,⟨kb,by rw [upd_ne (nk h3)]; exact h3,h4,h5⟩,⟨by rw [upd_ne (nl h6)]; exact h6,h7,fun i o p e1 e2=>by rw [upd_ne (nt (h8 i o p e1 e2))]; exact h8 i o p e1 e2⟩,⟨by rw [upd_ne (nl h9)]; exact h9,h10,fun k x ls e1 e2=>?_⟩,h12,h13,h14,h15⟩
 have R:=h11 k x ls e1 e2
 obtain ⟨⟨dz,z1⟩,⟨k1,z2,_⟩,⟨k2,z3,_⟩,_⟩:=id R
 exact R.upd (ni (by show 2≤2; decide) z1) (nk z2) (nk z3) (fun t xs e=>nt e) fun na xs _ e=>nl e
section
variable {P:Program} {w:World} {K:PySem.W.Frag} {mg:Str→Option Value} {base:Heap}
def DeskSt (T:Tx P w K mg) (av:Addr→Prop) (H:Hp) (d:Addr) (c:Series):Prop:=(seriesText c).length≤65536∧∃ (dx:Addr) (a:SerAd),a.av=av∧H d=some (.ins T.Desk.C dx (deskF (.ref a.o)))∧SerAt T.Race.C T.Series.C H a c (seriesText c)
def KeepD (d:Addr) (H H':Hp):Prop:=∀ b o,H b=some o→b≠d→isT o=false→H' b=some o
def intsV (l:List Int):List V:=l.map V.int
def Told (T:Tx P w K mg) (av:Addr→Prop) (d:Addr) (H:Hp) (Q:VK) (c:Series) (ans:List Int):Prop:=∀ (H':Hp) (p:Addr),KeepD d H H'→Tabs T H'→DeskSt T av H' d c→H p=none→H' p=some (.lst (intsV ans))→Q (.ref p) H'
theorem DeskSt.keep {T:Tx P w K mg} {av:Addr→Prop} {H H':Hp} {d:Addr} {c:Series} (h:DeskSt T av H d c) (k:Kp H H'):DeskSt T av H' d c:=by
 obtain ⟨h0,dx,a,ea,h1,h2⟩:=h
 exact ⟨h0,dx,a,ea,k _ _ h1 rfl,h2.keep k⟩
theorem Told.sm {T:Tx P w K mg} {av:Addr→Prop} {d:Addr} {H H':Hp} {Q:VK} {c:Series} {ans:List Int} (h:Told T av d H Q c ans) (D:DeskSt T av H d c) {p:Addr} (m:Sm T H H') (hp:H p=none) (e:H' p=some (.lst (intsV ans))):Q (.ref p) H' :=
 h H' p (fun b o e _ t=>m.kp b o e t) m.tb (D.keep m.kp) hp e
def spDeskInit (T:Tx P w K mg):Sp:=fun vs H Q _=>∃ (av:Addr→Prop) (p dx:Addr),vs=[.ref p]∧H p=some (.ins T.Desk.C dx [])∧(∀ b,H b=none→av b)∧∀ H',KeepBut p H H'→DeskSt T av H' p []→Q .non H'
theorem scDeskInit:FnScope ["self"] ["self"] (defScope s_Desk_init):=⟨rfl,rfl,rfl,by decide +kernel,rfl,by decide +kernel,by decide +kernel⟩
theorem ok_desk_init (T:Tx P w K mg):FnOk P w K mg base CX0 3 T.Desk.f T.Desk.fd ["self"] (spDeskInit T):=by
 have G:=ok_ser_init (base:=base) T
 refine T.Desk.fn.ok scDeskInit (fun vs H Q E h=>?_) (fun cdv A outer s H vs Q E hr h=>?_)
 ·obtain ⟨av,p,dx,rfl,_⟩:=h
  rfl
 obtain ⟨av,p,dx,rfl,hp,hav,q⟩:=h
 refine ⟨_,pss_one (ps_fld (pv 0) (pe_make0 T.Series.mkx G (hr.mono (by decide)) rfl T.Series.gl T.Series.bd .nil pass0) rfl),?_⟩
 dsimp only [sFld]
 refine made_ser av hav fun a H1 ea s1 N S=>?_
 have hp1:=s1 _ _ hp
 refine ⟨_,rfl,p,T.Desk.C,dx,_,rfl,hp1,T.Desk.cl,T.a_Desk_series,(by show 0 < 1000; decide),?_⟩
 exact q _ (fun b o e hb=>by rw [upd_ne hb]; exact s1 _ _ e) ⟨by decide,dx,a,ea,upd_same,S.offIns hp1 (Nat.zero_le _)⟩
def spHold (T:Tx P w K mg):Sp:=fun vs H Q _=>∃ (av:Addr→Prop) (H0:Hp) (d dx:Addr) (v0:V) (a:SerAd) (c:Series) (u:Bytes) (cc:Addr),vs=[.ref d,.ref a.o,.ref cc]∧a.av=av∧Same H0 H∧SerNew H0 a∧SerAt T.Race.C T.Series.C H a c (seriesText c)∧H0 cc=some (.lst (bytesV u))∧u.length≤70000∧H0 d=some (.ins T.Desk.C dx (deskF v0))∧(seriesText c).length≤65536 ∧
 (65536 < (seriesText c).length + u.length→∀ (H':Hp) (p:Addr),Same H0 H'→H0 p=none→H' p=some (.lst [.int (-2)])→Q (.ref p) H') ∧
 ((
  seriesText c).length + u.length≤65536→(∀ k y,Rc.runB c [] u=.error (k,y)→∀ (H':Hp) (p:Addr),Same H0 H'→H0 p=none→H' p=some (.lst [.int (-6),natV k,natV y])→Q (.ref p) H') ∧
  ∀ e,Rc.runB c [] u=.ok e→∀ (H':Hp) (p:Addr),(∀ b o,H0 b=some o→b≠d→H' b=some o)→DeskSt T av H' d e→H0 p=none→H' p=some (.lst [.int 0])→Q (.ref p) H')
theorem scHold:FnScope ["self","series","codes","why"] ["self","series","codes"] (defScope s_Desk_hold):=⟨rfl,rfl,rfl,by decide +kernel,rfl,by decide +kernel,by decide +kernel⟩
theorem text_len:∀ c:Series,c.length≤(seriesText c).length
 | []=>Nat.le_refl _
 | l::c=>by
  have ih:=text_len c
  show c.length + 1≤((l.text++[10])++seriesText c).length
  rw [List.length_append,List.length_append]
  show c.length + 1≤l.text.length + 1 + _
  omega
theorem desk_put (a b:V):putF "series" b (deskF a)=deskF b:=by
 unfold deskF
 simp only [putF]
 rw [if_pos trivial]
theorem ok_hold (T:Tx P w K mg):FnOk P w K mg base CX0 6 T.m_hold.f T.m_hold.fd ["self","series","codes"] (spHold T):=by
 have nd:=scHold.nd
 have G:=ok_add (base:=base) T
 refine T.m_hold.fn.ok scHold (fun vs H Q E h=>?_) (fun cdv A outer s H vs Q E hr h=>?_)
 ·obtain ⟨av,H0,d,dx,v0,a,c,u,cc,rfl,_⟩:=h
  rfl
 obtain ⟨av,H0,d,dx,v0,a,c,u,cc,rfl,eav,s0,N,S,hcc,hu,hd,htx,q1,q2⟩:=h
 refine ⟨_,pss_cons (ps_if (pt_cmpR op_gt (pe_op op_add (pe_callB call_len_seq (by rfl) T.n_len PySem.boot_len (pa_cons (pe_fld (pv 1) rfl) pa_nil)) (pe_callB call_len_seq (by rfl) T.n_len PySem.boot_len (pa_cons (pv 2) pa_nil))) (pe_gi T.g_MOST_CODES rfl) (nomark _)) (pss_one (ps_ret (pe_lst (pa_cons (pe_gi T.g_TOO_LONG rfl) pa_nil)))) pss_nil)
  (pss_cons (ps_set (i:=3) nd rfl (Or.inl rfl) (pe_call G (hr.mono (by decide)) rfl T.add_text.gl T.add_text.fn.kp T.add_text.bd .nil pass0 (pa_cons (pv 1) (pa_cons (pv 2) pa_nil))))
  (pss_cons (ps_if (pt_cmpR op_ne (pv 3) (pe_gi T.g_RIGHT rfl) (nomark _)) (pss_one (ps_ret (pe_lst (pa_cons (pe_gi T.g_FAULT rfl) (pa_cons (pe_fld (pv 1) rfl) (pa_cons (pv 3) pa_nil)))))) pss_nil)
  (pss_cons (ps_fld (pv 0) (pv 1) rfl)
  (pss_one (ps_ret (pe_lst (pa_cons pe_int pa_nil))))))),?_⟩
 have hccH:=s0 _ _ hcc
 ((try dsimp only [tSeq,tNext,gName]); apply rd_if; exact (evt_test (ev_gt (ev_add (ev_lenL (S.evCodes T (ev_var rfl)) (SqL.of S.codes)) (ev_lenL (ev_var rfl) (SqL.of hccH))) ev_c)))
 ·intro h
  rw [bytesV_len,bytesV_len,decide_eq_true_eq] at h
  refine ⟨(by show 1≤sizeLine; decide),fun p hp=>?_⟩
  exact q1 (by omega) _ p (s0.put (s0.free hp)) (s0.free hp) upd_same
 ·intro h
  rw [bytesV_len,bytesV_len,decide_eq_false_iff_not] at h
  obtain ⟨q3,q4⟩:=q2 (by omega)
  have htl:=text_len c
  refine ⟨_,rfl,_,rfl,H0,a,c,seriesText c,u,cc,rfl,s0,N,S,hcc,by omega,by omega,?_⟩
  cases hrun:Rc.runB c [] u with
  | error ky =>
   obtain ⟨k,y⟩:=ky
   intro a' H' c' ea s1 S1 hk hy
   refine rd_if (b:=!decide (natV y=V.int 0)) (evt_test (ev_ne (ev_var rfl) ev_c)) (fun _=>?_) fun h=>?_
   ·have EC:Ev (tFld K (tVar 1) "line_count") [some (V.ref d),some (V.ref a.o),some (V.ref cc),some (natV y)] H' (natV k):=by
     rw [←hk]
     exact S1.evCount T (ev_var (by rw [ea]; rfl))
    dsimp only [tRet,tLst,tCons,tNil,tC]
    refine EC _ ?_
    refine ⟨_,rfl,(by show 3≤sizeLine; decide),fun p hp=>?_⟩
    exact q3 k y hrun _ p (s1.put (s1.free hp)) (s1.free hp) upd_same
   ·rw [dec_zero,decide_eq_false hy] at h
    cases h
  | ok e =>
   intro a' H' ea ev s1 N1 S1
   obtain ⟨hgd,htx2⟩:=Rc.run_ok u S.good hrun
   rw [List.nil_append] at htx2
   refine rd_if (b:=!decide (V.int 0=V.int 0)) (evt_test (ev_ne (ev_var rfl) ev_c)) (fun h=>(by cases h)) fun _=>?_
   have hd1:=s1 _ _ hd
   refine ⟨_,rfl,_,rfl,d,T.Desk.C,dx,_,rfl,hd1,T.Desk.cl,T.a_Desk_series,(by show 1 < 1000; decide),?_⟩
   rw [desk_put]
   refine ⟨(by show 1≤sizeLine; decide),fun p hp=>?_⟩
   have hdp:d≠p:=fun z=>by rw [←z,upd_same] at hp; cases hp
   have hp1:H' p=none:=by rw [upd_ne (Ne.symm hdp)] at hp; exact hp
   have hp0:H0 p=none:=s1.free hp1
   have S2:=S1.offIns (o:=.ins T.Desk.C dx (deskF (.ref a.o))) hd1 (Nat.le_refl 1)
   have S3:=S2.keep (Kp.of (Same.new (o:=.lst [.int 0]) hp))
   refine q4 e hrun _ p (fun b o g hb=>?_) ⟨by rw [htx2,List.length_append]; omega,dx,a',ev.trans eav,?_,by rw [htx2]; exact S3⟩ hp0 upd_same
   ·rw [upd_ne (ne_of_none g hp0),upd_ne hb]
    exact s1 _ _ g
   ·rw [upd_ne hdp,upd_same,ea]
end
end Rv
end
section
namespace Rv
open PySem PySem.Spec PyProof.Rows L2
open RgScore (Bytes Name Line Series boats outs races ownOf penOf ascii thisRace stands wrongOf tooMany seriesText howMany)
def ansL (a:Wqatcz.Ans):List Int:=a.ret::a.nums.map WqatczNeutral.int
theorem desk_no {v:V} {m:Str} (h:(m==("series":Str))=false):(deskF v).lookup m=none:=by
 unfold deskF
 rw [lk_skip h]
 rfl
section
variable {P:Program} {w:World} {K:PySem.W.Frag} {mg:Str→Option Value} {base:Heap}
theorem Tabs.keepBut {T:Tx P w K mg} {H H':Hp} {d C dx:Addr} {fs:List (Str×V)} (B:Tabs T H) (hd:H d=some (.ins C dx fs)) (k:∀ b o,H b=some o→b≠d→H' b=some o):Tabs T H':=by
 have go:∀ {p:Addr} {pos:Pos} {q:Str},TabOk H p pos q→TabOk H' p pos q:=fun {p pos q} h=>by
  obtain ⟨ps,h1,h2,h3⟩:=h
  refine ⟨ps,k _ _ h1 (ne_of h1 hd (by intro z; cases z)),h2,?_⟩
  rcases h3 with h3 | ⟨c,h3,h4⟩
  ·exact .inl h3
  ·exact .inr ⟨c,h3,k _ _ h4 (ne_of h4 hd (by intro z; cases z))⟩
 exact ⟨go B.one,go B.two⟩
theorem hold_told {T:Tx P w K mg} {av:Addr→Prop} {H:Hp} {d:Addr} {c c0:Series} {u:Bytes} {Q:VK} (D:DeskSt T av H d c) (B:Tabs T H) (g:Rc.Good c0) (ht:Told T av d H Q (Wqatcz.taken c (seriesText c0++u)).1 (ansL (Wqatcz.taken c (seriesText c0++u)).2)) :
  (65536 < (seriesText c0).length + u.length→∀ (H':Hp) (p:Addr),Same H H'→H p=none→H' p=some (.lst [.int (-2)])→Q (.ref p) H') ∧
  ((
   seriesText c0).length + u.length≤65536→(∀ k y,Rc.runB c0 [] u=.error (k,y)→∀ (H':Hp) (p:Addr),Same H H'→H p=none→H' p=some (.lst [.int (-6),natV k,natV y])→Q (.ref p) H') ∧
   ∀ e,Rc.runB c0 [] u=.ok e→∀ (H':Hp) (p:Addr),(∀ b o,H b=some o→b≠d→H' b=some o)→DeskSt T av H' d e→H p=none→H' p=some (.lst [.int 0])→Q (.ref p) H'):=by
 have hl:(seriesText c0++u).length=(seriesText c0).length + u.length:=List.length_append
 refine ⟨fun h H' p s hp e=>?_,fun h=>⟨fun k y hr H' p s hp e=>?_,fun d' hr H' p kb D' hp e=>?_⟩⟩
 ·have et:Wqatcz.taken c (seriesText c0++u)=(c,Wqatcz.MUCH):=by
   unfold Wqatcz.taken
   rw [if_pos (by show 65536 < _; omega)]
  rw [et] at ht
  exact ht.sm D (Sm.of B s) hp e
 ·have et:Wqatcz.taken c (seriesText c0++u)=(c,Wqatcz.faultAt (k,y)):=by
   unfold Wqatcz.taken
   rw [if_neg (by show ¬ 65536 < _; omega),Rc.more_run g,hr]
  rw [et] at ht
  exact ht.sm D (Sm.of B s) hp e
 ·have et:Wqatcz.taken c (seriesText c0++u)=(d',Wqatcz.says 0):=by
   unfold Wqatcz.taken
   rw [if_neg (by show ¬ 65536 < _; omega),Rc.more_run g,hr]
  rw [et] at ht
  obtain ⟨_,dx,a,_,hd,_⟩:=D
  exact ht H' p (fun b o e1 e2 _=>kb b o e1 e2) (B.keepBut hd kb) D' hp e
def spTake (T:Tx P w K mg):Sp:=fun vs H Q _=>∃ (av:Addr→Prop) (d:Addr) (c:Series) (u:Bytes) (cc:Addr),vs=[.ref d,.ref cc]∧DeskSt T av H d c∧Tabs T H∧H cc=some (.lst (bytesV u))∧u.length≤70000∧(∀ b,H b=none→av b)∧Told T av d H Q (Wqatcz.taken c u).1 (ansL (Wqatcz.taken c u).2)
theorem scTake:FnScope ["self","codes"] ["self","codes"] (defScope s_Desk_take):=⟨rfl,rfl,rfl,by decide +kernel,rfl,by decide +kernel,by decide +kernel⟩
theorem ok_take (T:Tx P w K mg):FnOk P w K mg base CX0 7 T.m_take.f T.m_take.fd ["self","codes"] (spTake T):=by
 have G1:=ok_hold (base:=base) T
 have G2:=ok_ser_init (base:=base) T
 refine T.m_take.fn.ok scTake (fun vs H Q E h=>?_) (fun cdv A outer s H vs Q E hr h=>?_)
 ·obtain ⟨av,d,c,u,cc,rfl,_⟩:=h
  rfl
 obtain ⟨av,d,c,u,cc,rfl,D,B,hcc,hu,hav,ht⟩:=h
 obtain ⟨q1,q2⟩:=hold_told (c0:=[]) (u:=u) D B Rc.Good.nil ht
 obtain ⟨_,dx,a,_,hd,_⟩:=D
 refine ⟨_,pss_one (ps_ret (pe_meth (pv 0) T.Desk.cl T.m_hold.me G1 (hr.mono (by decide)) T.m_hold.bd .nil pass0 (pa_cons (pe_make0 T.Series.mkx G2 (hr.mono (by decide)) rfl T.Series.gl T.Series.bd .nil pass0) (pa_cons (pv 1) pa_nil)))),?_⟩
 refine ⟨_,rfl,d,dx,_,rfl,hd,desk_no (by decide),?_⟩
 dsimp only [tCons]
 refine made_ser av hav fun b H1 eb s1 N S=>?_
 exact ⟨_,rfl,av,H,d,dx,_,b,[],u,cc,rfl,eb,s1,N,S,hcc,hu,hd,by decide,q1,q2⟩
def spMore (T:Tx P w K mg):Sp:=fun vs H Q _=>∃ (av:Addr→Prop) (d:Addr) (c:Series) (u:Bytes) (cc:Addr),vs=[.ref d,.ref cc]∧DeskSt T av H d c∧Tabs T H∧H cc=some (.lst (bytesV u))∧u.length≤70000∧(∀ b,H b=none→av b)∧Told T av d H Q (Wqatcz.taken c (seriesText c++u)).1 (ansL (Wqatcz.taken c (seriesText c++u)).2)
theorem scMore:FnScope ["self","codes"] ["self","codes"] (defScope s_Desk_more):=⟨rfl,rfl,rfl,by decide +kernel,rfl,by decide +kernel,by decide +kernel⟩
theorem ok_more (T:Tx P w K mg):FnOk P w K mg base CX0 7 T.m_more.f T.m_more.fd ["self","codes"] (spMore T):=by
 have G1:=ok_hold (base:=base) T
 have G2:=ok_ser_copy (base:=base) T
 refine T.m_more.fn.ok scMore (fun vs H Q E h=>?_) (fun cdv A outer s H vs Q E hr h=>?_)
 ·obtain ⟨av,d,c,u,cc,rfl,_⟩:=h
  rfl
 obtain ⟨av,d,c,u,cc,rfl,D,B,hcc,hu,hav,ht⟩:=h
 have D0:=D
 obtain ⟨htx,dx,a,ea,hd,S⟩:=D
 obtain ⟨q1,q2⟩:=hold_told (c0:=c) (u:=u) D0 B S.good ht
 refine ⟨_,pss_one (ps_ret (pe_meth (pv 0) T.Desk.cl T.m_hold.me G1 (hr.mono (by decide)) T.m_hold.bd .nil pass0 (pa_cons (pe_call G2 (hr.mono (by decide)) rfl T.series_copy.gl T.series_copy.fn.kp T.series_copy.bd .nil pass0 (pa_cons (pe_fld (pv 0) rfl) pa_nil)) (pa_cons (pv 1) pa_nil)))),?_⟩
 refine ⟨_,rfl,d,dx,_,rfl,hd,desk_no (by decide),?_⟩
 refine ⟨_,rfl,d,_,dx,_,_,rfl,hd,T.Desk.cl,T.a_Desk_series,desk_ser _,a,c,seriesText c,rfl,S,(by rw [ea]; exact hav),fun b H1 eb s1 N S1=>?_⟩
 exact ⟨_,rfl,av,H,d,dx,_,b,c,u,cc,rfl,eb.trans ea,s1,N,S1,hcc,hu,hd,htx,q1,q2⟩
def spText (T:Tx P w K mg):Sp:=fun vs H Q _=>∃ (av:Addr→Prop) (d:Addr) (c:Series),vs=[.ref d]∧DeskSt T av H d c∧Tabs T H∧Told T av d H Q c (ansL (Wqatcz.told c .text))
theorem scText:FnScope ["self"] ["self"] (defScope s_Desk_text):=⟨rfl,rfl,rfl,by decide +kernel,rfl,by decide +kernel,by decide +kernel⟩
theorem ok_text (T:Tx P w K mg):FnOk P w K mg base CX0 1 T.m_text.f T.m_text.fd ["self"] (spText T):=by
 refine T.m_text.fn.ok scText (fun vs H Q E h=>?_) (fun cdv A outer s H vs Q E hr h=>?_)
 ·obtain ⟨av,d,c,rfl,_⟩:=h
  rfl
 obtain ⟨av,d,c,rfl,D,B,ht⟩:=h
 have D0:=D
 obtain ⟨htx,dx,a,ea,hd,S⟩:=D
 obtain ⟨dS,hS⟩:=S.obj
 refine ⟨_,pss_one (ps_ret (pe_op op_cat (pe_lst (pa_cons (pe_callB call_len_seq (by rfl) T.n_len PySem.boot_len (pa_cons (pe_fld (pe_fld (pv 0) rfl) rfl) pa_nil)) pa_nil)) (pe_fld (pe_fld (pv 0) rfl) rfl))),?_⟩
 refine ⟨_,rfl,d,_,dx,_,_,rfl,hd,T.Desk.cl,T.a_Desk_series,desk_ser _,a.o,_,dS,_,_,rfl,hS,T.Series.cl,T.a_Series_codes,ser_codes _ _ _ _ _,a.cd,_,rfl,.inl (SqL.of S.codes),(by show 1≤sizeLine; decide),fun l hl=>?_⟩
 have s1:Same H (upd H l (.lst [.int (bytesV (seriesText c)).length])):=Same.new hl
 refine ⟨_,rfl,d,_,dx,_,_,rfl,s1 _ _ hd,T.Desk.cl,T.a_Desk_series,desk_ser _,a.o,_,dS,_,_,rfl,s1 _ _ hS,T.Series.cl,T.a_Series_codes,ser_codes _ _ _ _ _,l,a.cd,_,_,rfl,rfl,upd_same,s1 _ _ S.codes,?_,fun p hp=>?_⟩
 ·rw [bytesV_len]
  show 1 + _≤sizeLine
  exact line10 (by omega)
 ·refine ht.sm D0 (Sm.of B (s1.put (s1.free hp))) (s1.free hp) ?_
  rw [upd_same,bytesV_len]
  show some (HO.lst ([V.int ((seriesText c).length:Int)]++bytesV (seriesText c)))=some (HO.lst (intsV ((((seriesText c).map fun (x:UInt8)=>x.toNat).length:Int)::(((seriesText c).map fun (x:UInt8)=>x.toNat).map WqatczNeutral.int))))
  rw [List.length_map,List.map_map]
  unfold intsV bytesV
  rw [List.map_cons,List.map_map]
  rfl
def spSizes (T:Tx P w K mg):Sp:=fun vs H Q _=>∃ (av:Addr→Prop) (d:Addr) (c:Series),vs=[.ref d]∧DeskSt T av H d c∧Tabs T H∧Told T av d H Q c (ansL (Wqatcz.told c .sizes))
theorem scSizes:FnScope ["self"] ["self"] (defScope s_Desk_sizes):=⟨rfl,rfl,rfl,by decide +kernel,rfl,by decide +kernel,by decide +kernel⟩
theorem ev_ser {σ:L2.St} {H:Hp} {te:TE} {d dx:Addr} {a:SerAd} (T:Tx P w K mg) (e:Ev te σ H (.ref d)) (hd:H d=some (.ins T.Desk.C dx (deskF (.ref a.o)))):Ev (tFld K te "series") σ H (.ref a.o):=ev_fld e hd T.Desk.cl T.a_Desk_series (desk_ser _)
theorem ok_sizes (T:Tx P w K mg):FnOk P w K mg base CX0 1 T.m_sizes.f T.m_sizes.fd ["self"] (spSizes T):=by
 refine T.m_sizes.fn.ok scSizes (fun vs H Q E h=>?_) (fun cdv A outer s H vs Q E hr h=>?_)
 ·obtain ⟨av,d,c,rfl,_⟩:=h
  rfl
 obtain ⟨av,d,c,rfl,D,B,ht⟩:=h
 have D0:=D
 obtain ⟨htx,dx,a,ea,hd,S⟩:=D
 refine ⟨_,pss_one (ps_ret (pe_lst (pa_cons pe_int (pa_cons (pe_callB call_lenD (by rfl) T.n_len PySem.boot_len (pa_cons (pe_fld (pe_fld (pv 0) rfl) rfl) pa_nil)) (pa_cons (pe_callB call_len_seq (by rfl) T.n_len PySem.boot_len (pa_cons (pe_fld (pe_fld (pv 0) rfl) rfl) pa_nil)) (pa_cons (pe_callB call_len_seq (by rfl) T.n_len PySem.boot_len (pa_cons (pe_fld (pe_fld (pv 0) rfl) rfl) pa_nil)) pa_nil)))))),?_⟩
 have ES:Ev (tFld K (tVar 0) "series") (L2.start ["self"] [V.ref d]) H (.ref a.o):=ev_ser T (ev_var rfl) hd
 have EA:=eva_cons (ev_c (v:=.int 0)) (eva_cons (S.nb (S.evBoats T ES)) (eva_cons (S.no (K:=K) (S.evOuts T ES)) (eva_cons (S.nr (K:=K) (S.evRaces T ES)) eva_nil)))
 dsimp only [tRet,tLst]
 refine EA _ ?_
 refine ⟨(by show 4≤sizeLine; decide),fun p hp=>?_⟩
 exact ht.sm D0 (Sm.of B (Same.new hp)) hp (by rw [upd_same]; rfl)
def refN (c:Series) (r:Nat) (is:List Nat):Int:=if (races c).length < r then -8 else if is.any (fun i=>decide ((boats c).length≤i))=true then -4 else 0
def spRef (T:Tx P w K mg):Sp:=fun vs H Q _=>∃ (av:Addr→Prop) (d:Addr) (c:Series) (r:Nat) (is:List Nat) (bl:Addr),vs=[.ref d,natV r,.ref bl]∧DeskSt T av H d c∧H bl=some (.lst (natsV is))∧Q (.int (refN c r is)) H
theorem scRef:FnScope ["self","r","boats","boat"] ["self","r","boats"] (defScope s_Desk_refusal):=⟨rfl,rfl,rfl,by decide +kernel,rfl,by decide +kernel,by decide +kernel⟩
theorem dec_lt (k n:Nat):decide ((k:Int) < (n:Int))=decide (k < n):=by rw [Bool.eq_iff_iff,decide_eq_true_eq,decide_eq_true_eq]; omega
theorem ok_ref (T:Tx P w K mg):FnOk P w K mg base CX0 1 T.m_refusal.f T.m_refusal.fd ["self","r","boats"] (spRef T):=by
 have nd:=scRef.nd
 refine T.m_refusal.fn.ok scRef (fun vs H Q E h=>?_) (fun cdv A outer s H vs Q E hr h=>?_)
 ·obtain ⟨av,d,c,r,is,bl,rfl,_⟩:=h
  rfl
 obtain ⟨av,d,c,r,is,bl,rfl,D,hbl,q⟩:=h
 obtain ⟨htx,dx,a,ea,hd,S⟩:=D
 refine ⟨_,pss_cons (ps_if (pt_cmpR op_gt (pv 1) (pe_callB call_len_seq (by rfl) T.n_len PySem.boot_len (pa_cons (pe_fld (pe_fld (pv 0) rfl) rfl) pa_nil)) (nomark _)) (pss_one (ps_ret (pe_gi T.g_TOO_MANY_RACES rfl))) pss_nil)
  (pss_cons (ps_for PassesOwn.never rfl (pi_list (pv 2)) (pg_name (i:=3) nd rfl (Or.inl rfl))
   (pss_one (ps_if (pt_cmpR op_ge (pv 3) (pe_callB call_lenD (by rfl) T.n_len PySem.boot_len (pa_cons (pe_fld (pe_fld (pv 0) rfl) rfl) pa_nil)) (nomark _)) (pss_one (ps_ret (pe_gi T.g_NO_SUCH rfl))) pss_nil)))
  (pss_one (ps_ret (pe_gi T.g_GRANTED rfl)))),?_⟩
 ((try dsimp only [tSeq,tNext,gName]); apply rd_if; exact (evt_test (ev_gt (i:=(r:Nat)) (j:=((races c).length:Nat)) (ev_var rfl) (S.nr (S.evRaces T (ev_ser T (ev_var rfl) hd))))))
 ·intro h
  rw [dec_lt,decide_eq_true_eq] at h
  unfold refN at q
  rw [if_pos h] at q
  exact q
 ·intro h
  rw [dec_lt,decide_eq_false_iff_not] at h
  unfold refN at q
  rw [if_neg h] at q
  refine ⟨_,rfl,bl,rfl,⟨_,SqL.of hbl⟩,for_list (K:=K) (a:=bl) (xs:=natsV is) (fun k σ H'=>H'=H∧(∃ v:Option V,σ=[some (.ref d),some (natV r),some (.ref bl),v])∧(is.take k).any (fun i=>decide ((boats c).length≤i))=false)
   ⟨rfl,⟨none,rfl⟩,rfl⟩ (fun k σ H' _ ⟨e,_⟩=>by rw [e]; exact SqL.of hbl) ?_ ?_⟩
  ·rintro k y σ H' hy ⟨rfl,⟨v,rfl⟩,hany⟩
   obtain ⟨i,hi,rfl⟩:∃ i,is[k]?=some i∧y=natV i:=by
    unfold natsV at hy
    rw [List.getElem?_map] at hy
    cases e:is[k]? with
    | none=>rw [e] at hy; cases hy
    | some o=>rw [e] at hy; exact ⟨o,rfl,(Option.some.inj hy).symm⟩
   ((try dsimp only [tSeq,tNext,gName]); apply rd_if; exact (evt_test (ev_ge (i:=(i:Nat)) (j:=((boats c).length:Nat)) (ev_var rfl) (S.nb (S.evBoats T (ev_ser T (ev_var rfl) hd))))))
   ·intro h2
    rw [dec_le,decide_eq_true_eq] at h2
    have e:is.any (fun i=>decide ((boats c).length≤i))=true:=List.any_eq_true.mpr ⟨i,List.mem_of_getElem? hi,decide_eq_true h2⟩
    rw [if_pos e] at q
    exact q
   ·intro h2
    rw [dec_le] at h2
    refine ⟨rfl,⟨_,rfl⟩,?_⟩
    rw [take_snoc hi,List.any_append,hany]
    simp [h2]
  ·rintro σ H' ⟨rfl,⟨v,rfl⟩,hany⟩
   rw [natsV_len,List.take_length] at hany
   rw [hany,if_neg Bool.false_ne_true] at q
   exact q
end
end Rv
end
section
namespace Rv
open PySem PySem.Spec PyProof.Rows L2
open RgScore (Bytes Name Line Series boats outs races ownOf penOf ascii thisRace stands wrongOf tooMany seriesText howMany)
theorem ref_bad {c:Series} {r i:Nat} {f:Name→Wqatcz.Ans} (h:refN c r [i]≠0):ansL (Wqatcz.ofBoat c r i f)=[refN c r [i]]:=by
 unfold refN at h ⊢
 unfold Wqatcz.ofBoat
 by_cases h1:(races c).length < r
 ·rw [if_pos h1,if_pos h1]
  rfl
 ·rw [if_neg h1] at h ⊢
  rw [if_neg h1]
  by_cases h2:(boats c).length≤i
  ·rw [if_pos (by simpa using h2),List.getElem?_eq_none h2]
   rfl
  ·rw [if_neg (by simpa using h2)] at h
   exact absurd rfl h
theorem ref_good {c:Series} {r i:Nat} (h:refN c r [i]=0):r≤(races c).length∧∃ n,(boats c)[i]?=some n:=by
 unfold refN at h
 by_cases h1:(races c).length < r
 ·rw [if_pos h1] at h
  cases h
 ·rw [if_neg h1] at h
  by_cases h2:(boats c).length≤i
  ·rw [if_pos (by simpa using h2)] at h
   cases h
  ·exact ⟨by omega,_,List.getElem?_eq_getElem (by omega)⟩
theorem ref2_bad {c:Series} {r i j:Nat} {f:Name→Name→Wqatcz.Ans} (h:refN c r [i,j]≠0):ansL (Wqatcz.ofBoat c r i fun n=>Wqatcz.ofBoat c r j fun m=>f n m)=[refN c r [i,j]]:=by
 unfold refN at h ⊢
 unfold Wqatcz.ofBoat
 by_cases h1:(races c).length < r
 ·rw [if_pos h1,if_pos h1]
  rfl
 ·rw [if_neg h1] at h ⊢
  rw [if_neg h1]
  by_cases h2:(boats c).length≤i
  ·rw [if_pos (by simp [h2]),List.getElem?_eq_none h2]
   rfl
  ·rw [List.getElem?_eq_getElem (show i < (boats c).length by omega)]
   dsimp only
   rw [if_neg h1]
   by_cases h3:(boats c).length≤j
   ·rw [if_pos (by simp [h3]),List.getElem?_eq_none h3]
    rfl
   ·rw [if_neg (by simp [h2,h3])] at h
    exact absurd rfl h
theorem ref2_good {c:Series} {r i j:Nat} (h:refN c r [i,j]=0):r≤(races c).length∧(∃ n,(boats c)[i]?=some n)∧∃ n,(boats c)[j]?=some n:=by
 unfold refN at h
 by_cases h1:(races c).length < r
 ·rw [if_pos h1] at h
  cases h
 ·rw [if_neg h1] at h
  by_cases h2:(boats c).length≤i
  ·rw [if_pos (by simp [h2])] at h
   cases h
  ·by_cases h3:(boats c).length≤j
   ·rw [if_pos (by simp [h3])] at h
    cases h
   ·exact ⟨by omega,⟨_,List.getElem?_eq_getElem (show i < (boats c).length by omega)⟩,_,List.getElem?_eq_getElem (show j < (boats c).length by omega)⟩
theorem intsV_nats (l:List Nat):intsV (l.map WqatczNeutral.int)=natsV l:=by
 unfold intsV natsV
 rw [List.map_map]
 rfl
theorem dec_zeroI (z:Int):decide (V.int z=V.int 0)=decide (z=0):=by
 rw [Bool.eq_iff_iff,decide_eq_true_eq,decide_eq_true_eq]
 constructor
 ·intro h
  injection h
 ·intro h
  rw [h]
section
variable {P:Program} {w:World} {K:PySem.W.Frag} {mg:Str→Option Value} {base:Heap}
def spPoints (T:Tx P w K mg):Sp:=fun vs H Q _=>∃ (av:Addr→Prop) (d:Addr) (c:Series) (r i k:Nat),vs=[.ref d,natV r,natV i,natV k]∧DeskSt T av H d c∧Tabs T H∧Told T av d H Q c (ansL (Wqatcz.told c (.points r i k)))
theorem scPoints:FnScope ["self","r","i","k","refused"] ["self","r","i","k"] (defScope s_Desk_points):=⟨rfl,rfl,rfl,by decide +kernel,rfl,by decide +kernel,by decide +kernel⟩
theorem ok_points (T:Tx P w K mg):FnOk P w K mg base CX0 5 T.m_points.f T.m_points.fd ["self","r","i","k"] (spPoints T):=by
 have nd:=scPoints.nd
 have G1:=ok_ref (base:=base) T
 have G2:=ok_frac (base:=base) T
 have G3:=ok_pts (base:=base) T
 refine T.m_points.fn.ok scPoints (fun vs H Q E h=>?_) (fun cdv A outer s H vs Q E hr h=>?_)
 ·obtain ⟨av,d,c,r,i,k,rfl,_⟩:=h
  rfl
 obtain ⟨av,d,c,r,i,k,rfl,D,B,ht⟩:=h
 have D0:=D
 obtain ⟨htx,dx,a,ea,hd,S⟩:=D
 have F:=S.good.facts
 refine ⟨_,pss_cons (ps_set (i:=4) nd rfl (Or.inl rfl) (pe_meth (pv 0) T.Desk.cl T.m_refusal.me G1 (hr.mono (by decide)) T.m_refusal.bd .nil pass0 (pa_cons (pv 1) (pa_cons (pe_lst (pa_cons (pv 2) pa_nil)) pa_nil))))
  (pss_cons (ps_if (pt_cmpR op_ne (pv 4) (pe_gi T.g_GRANTED rfl) (nomark _)) (pss_one (ps_ret (pe_lst (pa_cons (pv 4) pa_nil)))) pss_nil)
  (pss_cons (ps_if (pt_cmpR op_ge (pv 3) (pv 1) (nomark _)) (pss_one (ps_ret (pe_lst (pa_cons (pe_gi T.g_NO_SUCH rfl) pa_nil)))) pss_nil)
  (pss_one (ps_ret (pe_op op_cat (pe_lst (pa_cons pe_int pa_nil)) (pe_call G2 (hr.mono (by decide)) rfl T.told_fraction.gl T.told_fraction.fn.kp T.told_fraction.bd .nil pass0 (pa_cons (pe_ix ix_list (pe_call G3 (hr.mono (by decide)) rfl T.points_by_race.gl T.points_by_race.fn.kp T.points_by_race.bd .nil pass0 (pa_cons (pe_fld (pv 0) rfl) (pa_cons (pv 1) (pa_cons (pv 2) pa_nil)))) (pv 3) (fun _ _=>rfl)) pa_nil))))))),?_⟩
 refine ⟨_,rfl,d,dx,_,rfl,hd,desk_no (by decide),_,rfl,_,rfl,(by show 1≤sizeLine; decide),fun bl hbl=>?_⟩
 have s1:Same H (upd H bl (.lst [natV i])):=Same.new hbl
 refine ⟨av,d,c,r,[i],bl,rfl,D0.keep (Kp.of s1),upd_same,?_⟩
 ((try dsimp only [tSeq,tNext,gName]); apply rd_if; exact (evt_test (ev_ne (ev_var rfl) ev_c)))
 ·intro h
  rw [dec_zeroI] at h
  have h0:refN c r [i]≠0:=fun z=>by rw [z] at h; cases h
  refine ⟨_,rfl,(by show 1≤sizeLine; decide),fun p hp=>?_⟩
  refine ht.sm D0 (Sm.of B (s1.put (s1.free hp))) (s1.free hp) ?_
  rw [upd_same]
  show _=some (HO.lst (intsV (ansL (Wqatcz.ofBoat c r i _))))
  rw [ref_bad h0]
  rfl
 intro h
 rw [dec_zeroI] at h
 have h0:refN c r [i]=0:=Classical.byContradiction fun z=>by rw [decide_eq_false z] at h; cases h
 obtain ⟨hr1,n,hn⟩:=ref_good h0
 ((try dsimp only [tSeq,tNext,gName]); apply rd_if; exact (evt_test (ev_ge (i:=(k:Nat)) (j:=(r:Nat)) (ev_var rfl) (ev_var rfl))))
 ·intro hk
  rw [dec_le,decide_eq_true_eq] at hk
  refine ⟨(by show 1≤sizeLine; decide),fun p hp=>?_⟩
  refine ht.sm D0 (Sm.of B (s1.put (s1.free hp))) (s1.free hp) ?_
  rw [upd_same,Rc.points_none F hr1 hn hk]
  rfl
 intro hk
 rw [dec_le,decide_eq_false_iff_not] at hk
 refine ⟨(by show 1≤sizeLine; decide),fun l hl=>?_⟩
 have s2:=s1.put (o:=.lst [.int 0]) (s1.free hl)
 have S2:=S.keep (Kp.of s2)
 have hpl:(Rc.ptsN (boats c).length ((races c).take r) n).length=r:=by rw [Rc.ptsN_len,List.length_take]; omega
 refine ⟨_,rfl,d,_,dx,_,_,rfl,s2 _ _ hd,T.Desk.cl,T.a_Desk_series,desk_ser _,_,rfl,_,rfl,a,c,seriesText c,r,i,n,rfl,S2,hn,fun H1 pp s3 hpp h1=>?_⟩
 refine ⟨_,rfl,pp,_,_,_,rfl,rfl,SqL.of h1,at_ix (j:=k) rfl (natsV_get (by rw [hpl]; omega)),?_⟩
 refine ⟨_,rfl,fun H2 pf s4 hpf h2=>?_⟩
 have hl2:H2 l=some (.lst [.int 0]):=s4 _ _ (s3 _ _ upd_same)
 refine ⟨l,pf,_,_,rfl,rfl,hl2,h2,(by show 1 + 2≤sizeLine; decide),fun p hp=>?_⟩
 have s5:Same H H2:=(s2.trans s3).trans s4
 refine ht.sm D0 (Sm.of B (s5.put (s5.free hp))) (s5.free hp) ?_
 rw [upd_same,Rc.points_told F hr1 hn (by omega)]
 rfl
def spOut (T:Tx P w K mg):Sp:=fun vs H Q _=>∃ (av:Addr→Prop) (d:Addr) (c:Series) (r i:Nat),vs=[.ref d,natV r,natV i]∧DeskSt T av H d c∧Tabs T H∧Told T av d H Q c (ansL (Wqatcz.told c (.out r i)))
theorem scOut:FnScope ["self","r","i","refused","races"] ["self","r","i"] (defScope s_Desk_out):=⟨rfl,rfl,rfl,by decide +kernel,rfl,by decide +kernel,by decide +kernel⟩
theorem ok_out (T:Tx P w K mg) (BM:BMain mg base):FnOk P w K mg base CX0 6 T.m_out.f T.m_out.fd ["self","r","i"] (spOut T):=by
 have nd:=scOut.nd
 have G1:=ok_ref (base:=base) T
 have G2:=ok_left T BM
 have G3:=ok_pts (base:=base) T
 refine T.m_out.fn.ok scOut (fun vs H Q E h=>?_) (fun cdv A outer s H vs Q E hr h=>?_)
 ·obtain ⟨av,d,c,r,i,rfl,_⟩:=h
  rfl
 obtain ⟨av,d,c,r,i,rfl,D,B,ht⟩:=h
 have D0:=D
 obtain ⟨htx,dx,a,ea,hd,S⟩:=D
 have F:=S.good.facts
 refine ⟨_,pss_cons (ps_set (i:=3) nd rfl (Or.inl rfl) (pe_meth (pv 0) T.Desk.cl T.m_refusal.me G1 (hr.mono (by decide)) T.m_refusal.bd .nil pass0 (pa_cons (pv 1) (pa_cons (pe_lst (pa_cons (pv 2) pa_nil)) pa_nil))))
  (pss_cons (ps_if (pt_cmpR op_ne (pv 3) (pe_gi T.g_GRANTED rfl) (nomark _)) (pss_one (ps_ret (pe_lst (pa_cons (pv 3) pa_nil)))) pss_nil)
  (pss_cons (ps_set (i:=4) nd rfl (Or.inl rfl) (pe_call G2 (hr.mono (by decide)) rfl T.left_out.gl T.left_out.fn.kp T.left_out.bd .nil pass0 (pa_cons (pe_fld (pv 0) rfl) (pa_cons (pv 2) (pa_cons (pe_call G3 (hr.mono (by decide)) rfl T.points_by_race.gl T.points_by_race.fn.kp T.points_by_race.bd .nil pass0 (pa_cons (pe_fld (pv 0) rfl) (pa_cons (pv 1) (pa_cons (pv 2) pa_nil)))) pa_nil)))))
  (pss_one (ps_ret (pe_op op_cat (pe_lst (pa_cons (pe_callB call_len_seq (by rfl) T.n_len PySem.boot_len (pa_cons (pv 4) pa_nil)) pa_nil)) (pv 4)))))),?_⟩
 refine ⟨_,rfl,d,dx,_,rfl,hd,desk_no (by decide),_,rfl,_,rfl,(by show 1≤sizeLine; decide),fun bl hbl=>?_⟩
 have s1:Same H (upd H bl (.lst [natV i])):=Same.new hbl
 refine ⟨av,d,c,r,[i],bl,rfl,D0.keep (Kp.of s1),upd_same,?_⟩
 ((try dsimp only [tSeq,tNext,gName]); apply rd_if; exact (evt_test (ev_ne (ev_var rfl) ev_c)))
 ·intro h
  rw [dec_zeroI] at h
  have h0:refN c r [i]≠0:=fun z=>by rw [z] at h; cases h
  refine ⟨_,rfl,(by show 1≤sizeLine; decide),fun p hp=>?_⟩
  refine ht.sm D0 (Sm.of B (s1.put (s1.free hp))) (s1.free hp) ?_
  rw [upd_same]
  show _=some (HO.lst (intsV (ansL (Wqatcz.ofBoat c r i _))))
  rw [ref_bad h0]
  rfl
 intro h
 rw [dec_zeroI] at h
 have h0:refN c r [i]=0:=Classical.byContradiction fun z=>by rw [decide_eq_false z] at h; cases h
 obtain ⟨hr1,n,hn⟩:=ref_good h0
 refine ⟨_,rfl,d,_,dx,_,_,rfl,s1 _ _ hd,T.Desk.cl,T.a_Desk_series,desk_ser _,_,rfl,?_⟩
 refine ⟨_,rfl,d,_,dx,_,_,rfl,s1 _ _ hd,T.Desk.cl,T.a_Desk_series,desk_ser _,_,rfl,_,rfl,a,c,seriesText c,r,i,n,rfl,S.keep (Kp.of s1),hn,fun H1 pp s2 hpp h1=>?_⟩
 have s3:Same H H1:=s1.trans s2
 refine ⟨a,c,seriesText c,r,i,n,pp,rfl,S.keep (Kp.of s3),hn,hr1,h1,B.same s3,fun H2 po m2 hpo h2=>?_⟩
 have m3:Sm T H H2:=(Sm.of B s3).trans m2
 refine ⟨_,rfl,po,_,rfl,.inl (SqL.of h2),(by show 1≤sizeLine; decide),fun l hl=>?_⟩
 have m4:=m3.new (o:=.lst [.int ((natsV (Rc.risingN (Rc.outN (boats c).length (howMany c r) ((races c).take r) n))).length:Nat)]) hl
 have hpl:po≠l:=ne_of_none h2 hl
 refine ⟨_,rfl,l,po,_,_,rfl,rfl,upd_same,by rw [upd_ne hpl]; exact h2,?_,fun p hp=>?_⟩
 ·rw [natsV_len,(Rc.risingN_perm _).length_eq]
  unfold Rc.outN
  rw [List.length_take,Rc.worstN_sort,(Rc.sortK_perm _).length_eq]
  unfold Rc.mayN
  have:=List.length_filter_le (fun k=>!Rc.isDis ((((races c).take r).map fun ls=>ownOf ls n).getD k none)) (List.range ((races c).take r).length)
  rw [List.length_range] at this
  have:=F.races_len r
  show 1 + _≤sizeLine
  exact line10 (by omega)
 ·refine ht.sm D0 (m4.new hp) (m4.free hp) ?_
  rw [upd_same,Rc.out_told F hr1 hn,natsV_len]
  show some (HO.lst ([V.int _]++natsV _))=some (HO.lst (intsV (_::(_:List Nat).map WqatczNeutral.int)))
  unfold intsV
  rw [List.map_cons]
  show _=some (HO.lst (V.int _::intsV ((Rc.risingN (Rc.outN (boats c).length (howMany c r) ((races c).take r) n)).map WqatczNeutral.int)))
  rw [intsV_nats]
  rfl
def spTotal (T:Tx P w K mg):Sp:=fun vs H Q _=>∃ (av:Addr→Prop) (d:Addr) (c:Series) (r i:Nat),vs=[.ref d,natV r,natV i]∧DeskSt T av H d c∧Tabs T H∧Told T av d H Q c (ansL (Wqatcz.told c (.total r i)))
theorem scTotal:FnScope ["self","r","i","refused"] ["self","r","i"] (defScope s_Desk_total):=⟨rfl,rfl,rfl,by decide +kernel,rfl,by decide +kernel,by decide +kernel⟩
theorem ok_total (T:Tx P w K mg) (BM:BMain mg base):FnOk P w K mg base CX0 8 T.m_total.f T.m_total.fd ["self","r","i"] (spTotal T):=by
 have nd:=scTotal.nd
 have G1:=ok_ref (base:=base) T
 have G2:=ok_frac (base:=base) T
 have G3:=ok_score T BM
 refine T.m_total.fn.ok scTotal (fun vs H Q E h=>?_) (fun cdv A outer s H vs Q E hr h=>?_)
 ·obtain ⟨av,d,c,r,i,rfl,_⟩:=h
  rfl
 obtain ⟨av,d,c,r,i,rfl,D,B,ht⟩:=h
 have D0:=D
 obtain ⟨htx,dx,a,ea,hd,S⟩:=D
 have F:=S.good.facts
 refine ⟨_,pss_cons (ps_set (i:=3) nd rfl (Or.inl rfl) (pe_meth (pv 0) T.Desk.cl T.m_refusal.me G1 (hr.mono (by decide)) T.m_refusal.bd .nil pass0 (pa_cons (pv 1) (pa_cons (pe_lst (pa_cons (pv 2) pa_nil)) pa_nil))))
  (pss_cons (ps_if (pt_cmpR op_ne (pv 3) (pe_gi T.g_GRANTED rfl) (nomark _)) (pss_one (ps_ret (pe_lst (pa_cons (pv 3) pa_nil)))) pss_nil)
  (pss_one (ps_ret (pe_op op_cat (pe_lst (pa_cons pe_int pa_nil)) (pe_call G2 (hr.mono (by decide)) rfl T.told_fraction.gl T.told_fraction.fn.kp T.told_fraction.bd .nil pass0 (pa_cons (pe_ix ix_tup (pe_call G3 (hr.mono (by decide)) rfl T.boat_score.gl T.boat_score.fn.kp T.boat_score.bd .nil pass0 (pa_cons (pe_fld (pv 0) rfl) (pa_cons (pv 1) (pa_cons (pv 2) pa_nil)))) pe_int (fun _ _=>rfl)) pa_nil)))))),?_⟩
 refine ⟨_,rfl,d,dx,_,rfl,hd,desk_no (by decide),_,rfl,_,rfl,(by show 1≤sizeLine; decide),fun bl hbl=>?_⟩
 have s1:Same H (upd H bl (.lst [natV i])):=Same.new hbl
 refine ⟨av,d,c,r,[i],bl,rfl,D0.keep (Kp.of s1),upd_same,?_⟩
 ((try dsimp only [tSeq,tNext,gName]); apply rd_if; exact (evt_test (ev_ne (ev_var rfl) ev_c)))
 ·intro h
  rw [dec_zeroI] at h
  have h0:refN c r [i]≠0:=fun z=>by rw [z] at h; cases h
  refine ⟨_,rfl,(by show 1≤sizeLine; decide),fun p hp=>?_⟩
  refine ht.sm D0 (Sm.of B (s1.put (s1.free hp))) (s1.free hp) ?_
  rw [upd_same]
  show _=some (HO.lst (intsV (ansL (Wqatcz.ofBoat c r i _))))
  rw [ref_bad h0]
  rfl
 intro h
 rw [dec_zeroI] at h
 have h0:refN c r [i]=0:=Classical.byContradiction fun z=>by rw [decide_eq_false z] at h; cases h
 obtain ⟨hr1,n,hn⟩:=ref_good h0
 refine ⟨(by show 1≤sizeLine; decide),fun l hl=>?_⟩
 have s2:=s1.put (o:=.lst [.int 0]) (s1.free hl)
 refine ⟨_,rfl,d,_,dx,_,_,rfl,s2 _ _ hd,T.Desk.cl,T.a_Desk_series,desk_ser _,_,rfl,_,rfl,a,c,seriesText c,r,i,n,rfl,S.keep (Kp.of s2),hn,hr1,B.same s2,fun H1 ps m1 hps hs=>?_⟩
 have hsa:=hs.at_
 obtain ⟨x,y,z1,z2,z3⟩:=hsa
 refine ⟨ps,_,_,_,rfl,rfl,SqT.of z1,at_ix (j:=0) rfl rfl,?_⟩
 refine ⟨_,rfl,fun H2 pf s4 hpf h2=>?_⟩
 have hl2:H2 l=some (.lst [.int 0]):=s4 _ _ (m1.kp _ _ upd_same rfl)
 refine ⟨l,pf,_,_,rfl,rfl,hl2,h2,(by show 1 + 2≤sizeLine; decide),fun p hp=>?_⟩
 have m5:Sm T H H2:=((Sm.of B s2).trans m1).more s4
 refine ht.sm D0 (m5.new hp) (m5.free hp) ?_
 rw [upd_same,Rc.total_told F hr1 hn]
 rfl
def spBefore (T:Tx P w K mg):Sp:=fun vs H Q _=>∃ (av:Addr→Prop) (d:Addr) (c:Series) (r i j:Nat),vs=[.ref d,natV r,natV i,natV j]∧DeskSt T av H d c∧Tabs T H∧Told T av d H Q c (ansL (Wqatcz.told c (.before r i j)))
theorem scBefore:FnScope ["self","r","i","j","refused"] ["self","r","i","j"] (defScope s_Desk_before):=⟨rfl,rfl,rfl,by decide +kernel,rfl,by decide +kernel,by decide +kernel⟩
theorem ok_before (T:Tx P w K mg) (BM:BMain mg base):FnOk P w K mg base CX0 8 T.m_before.f T.m_before.fd ["self","r","i","j"] (spBefore T):=by
 have nd:=scBefore.nd
 have G1:=ok_ref (base:=base) T
 have G2:=ok_who (base:=base) T
 have G3:=ok_score T BM
 refine T.m_before.fn.ok scBefore (fun vs H Q E h=>?_) (fun cdv A outer s H vs Q E hr h=>?_)
 ·obtain ⟨av,d,c,r,i,j,rfl,_⟩:=h
  rfl
 obtain ⟨av,d,c,r,i,j,rfl,D,B,ht⟩:=h
 have D0:=D
 obtain ⟨htx,dx,a,ea,hd,S⟩:=D
 have F:=S.good.facts
 refine ⟨_,pss_cons (ps_set (i:=4) nd rfl (Or.inl rfl) (pe_meth (pv 0) T.Desk.cl T.m_refusal.me G1 (hr.mono (by decide)) T.m_refusal.bd .nil pass0 (pa_cons (pv 1) (pa_cons (pe_lst (pa_cons (pv 2) (pa_cons (pv 3) pa_nil))) pa_nil))))
  (pss_cons (ps_if (pt_cmpR op_ne (pv 4) (pe_gi T.g_GRANTED rfl) (nomark _)) (pss_one (ps_ret (pe_lst (pa_cons (pv 4) pa_nil)))) pss_nil)
  (pss_one (ps_ret (pe_call G2 (hr.mono (by decide)) rfl T.who_is_before.gl T.who_is_before.fn.kp T.who_is_before.bd .nil pass0 (pa_cons (pe_call G3 (hr.mono (by decide)) rfl T.boat_score.gl T.boat_score.fn.kp T.boat_score.bd .nil pass0 (pa_cons (pe_fld (pv 0) rfl) (pa_cons (pv 1) (pa_cons (pv 2) pa_nil)))) (pa_cons (pe_call G3 (hr.mono (by decide)) rfl T.boat_score.gl T.boat_score.fn.kp T.boat_score.bd .nil pass0 (pa_cons (pe_fld (pv 0) rfl) (pa_cons (pv 1) (pa_cons (pv 3) pa_nil)))) pa_nil)))))),?_⟩
 refine ⟨_,rfl,d,dx,_,rfl,hd,desk_no (by decide),_,rfl,_,rfl,_,rfl,(by show 2≤sizeLine; decide),fun bl hbl=>?_⟩
 have s1:Same H (upd H bl (.lst [natV i,natV j])):=Same.new hbl
 refine ⟨av,d,c,r,[i,j],bl,rfl,D0.keep (Kp.of s1),upd_same,?_⟩
 ((try dsimp only [tSeq,tNext,gName]); apply rd_if; exact (evt_test (ev_ne (ev_var rfl) ev_c)))
 ·intro h
  rw [dec_zeroI] at h
  have h0:refN c r [i,j]≠0:=fun z=>by rw [z] at h; cases h
  refine ⟨_,rfl,(by show 1≤sizeLine; decide),fun p hp=>?_⟩
  refine ht.sm D0 (Sm.of B (s1.put (s1.free hp))) (s1.free hp) ?_
  rw [upd_same]
  show _=some (HO.lst (intsV (ansL (Wqatcz.ofBoat c r i fun n=>Wqatcz.ofBoat c r j fun m=>_))))
  rw [ref2_bad h0]
  rfl
 intro h
 rw [dec_zeroI] at h
 have h0:refN c r [i,j]=0:=Classical.byContradiction fun z=>by rw [decide_eq_false z] at h; cases h
 obtain ⟨hr1,⟨n,hn⟩,⟨m,hm⟩⟩:=ref2_good h0
 refine ⟨_,rfl,d,_,dx,_,_,rfl,s1 _ _ hd,T.Desk.cl,T.a_Desk_series,desk_ser _,_,rfl,_,rfl,a,c,seriesText c,r,i,n,rfl,S.keep (Kp.of s1),hn,hr1,B.same s1,fun H1 p1 m1 hp1 hs1=>?_⟩
 have m01:Sm T H H1:=(Sm.of B s1).trans m1
 refine ⟨_,rfl,d,_,dx,_,_,rfl,m01.kp _ _ hd rfl,T.Desk.cl,T.a_Desk_series,desk_ser _,_,rfl,_,rfl,a,c,seriesText c,r,j,m,rfl,S.keep m01.kp,hm,hr1,m01.tb,fun H2 p2 m2 hp2 hs2=>?_⟩
 have m02:Sm T H H2:=m01.trans m2
 refine ⟨p1,p2,_,_,rfl,hs1.at_.keep m2.kp,hs2.at_,fun H3 l s3 hl h3=>?_⟩
 refine ht.sm D0 (m02.more s3) (m02.free hl) ?_
 rw [h3,Rc.before_told F hr1 hn hm]
 rfl
def spPlc (T:Tx P w K mg):Sp:=fun vs H Q _=>∃ (av:Addr→Prop) (d:Addr) (c:Series) (r i:Nat),vs=[.ref d,natV r,natV i]∧DeskSt T av H d c∧Tabs T H∧Told T av d H Q c (ansL (Wqatcz.told c (.place r i)))
theorem scPlc:FnScope ["self","r","i","refused"] ["self","r","i"] (defScope s_Desk_place):=⟨rfl,rfl,rfl,by decide +kernel,rfl,by decide +kernel,by decide +kernel⟩
theorem ok_plc (T:Tx P w K mg) (BM:BMain mg base):FnOk P w K mg base CX0 10 T.m_place.f T.m_place.fd ["self","r","i"] (spPlc T):=by
 have nd:=scPlc.nd
 have G1:=ok_ref (base:=base) T
 have G2:=ok_place T BM
 refine T.m_place.fn.ok scPlc (fun vs H Q E h=>?_) (fun cdv A outer s H vs Q E hr h=>?_)
 ·obtain ⟨av,d,c,r,i,rfl,_⟩:=h
  rfl
 obtain ⟨av,d,c,r,i,rfl,D,B,ht⟩:=h
 have D0:=D
 obtain ⟨htx,dx,a,ea,hd,S⟩:=D
 have F:=S.good.facts
 refine ⟨_,pss_cons (ps_set (i:=3) nd rfl (Or.inl rfl) (pe_meth (pv 0) T.Desk.cl T.m_refusal.me G1 (hr.mono (by decide)) T.m_refusal.bd .nil pass0 (pa_cons (pv 1) (pa_cons (pe_lst (pa_cons (pv 2) pa_nil)) pa_nil))))
  (pss_cons (ps_if (pt_cmpR op_ne (pv 3) (pe_gi T.g_GRANTED rfl) (nomark _)) (pss_one (ps_ret (pe_lst (pa_cons (pv 3) pa_nil)))) pss_nil)
  (pss_one (ps_ret (pe_op op_cat (pe_lst (pa_cons pe_int pa_nil)) (pe_call G2 (hr.mono (by decide)) rfl T.place_and_shared.gl T.place_and_shared.fn.kp T.place_and_shared.bd .nil pass0 (pa_cons (pe_fld (pv 0) rfl) (pa_cons (pv 1) (pa_cons (pv 2) pa_nil)))))))),?_⟩
 refine ⟨_,rfl,d,dx,_,rfl,hd,desk_no (by decide),_,rfl,_,rfl,(by show 1≤sizeLine; decide),fun bl hbl=>?_⟩
 have s1:Same H (upd H bl (.lst [natV i])):=Same.new hbl
 refine ⟨av,d,c,r,[i],bl,rfl,D0.keep (Kp.of s1),upd_same,?_⟩
 ((try dsimp only [tSeq,tNext,gName]); apply rd_if; exact (evt_test (ev_ne (ev_var rfl) ev_c)))
 ·intro h
  rw [dec_zeroI] at h
  have h0:refN c r [i]≠0:=fun z=>by rw [z] at h; cases h
  refine ⟨_,rfl,(by show 1≤sizeLine; decide),fun p hp=>?_⟩
  refine ht.sm D0 (Sm.of B (s1.put (s1.free hp))) (s1.free hp) ?_
  rw [upd_same]
  show _=some (HO.lst (intsV (ansL (Wqatcz.ofBoat c r i _))))
  rw [ref_bad h0]
  rfl
 intro h
 rw [dec_zeroI] at h
 have h0:refN c r [i]=0:=Classical.byContradiction fun z=>by rw [decide_eq_false z] at h; cases h
 obtain ⟨hr1,n,hn⟩:=ref_good h0
 refine ⟨(by show 1≤sizeLine; decide),fun l hl=>?_⟩
 have s2:=s1.put (o:=.lst [.int 0]) (s1.free hl)
 refine ⟨_,rfl,d,_,dx,_,_,rfl,s2 _ _ hd,T.Desk.cl,T.a_Desk_series,desk_ser _,_,rfl,_,rfl,a,c,seriesText c,r,i,n,rfl,S.keep (Kp.of s2),hn,hr1,B.same s2,fun H1 pf m1 hpf h2=>?_⟩
 have hl2:H1 l=some (.lst [.int 0]):=m1.kp _ _ upd_same rfl
 refine ⟨l,pf,_,_,rfl,rfl,hl2,h2,(by show 1 + 2≤sizeLine; decide),fun p hp=>?_⟩
 have m5:Sm T H H1:=(Sm.of B s2).trans m1
 refine ht.sm D0 (m5.new hp) (m5.free hp) ?_
 rw [upd_same,Rc.place_told F hr1 hn]
 rfl
def orderC (c:Series) (r:Nat):List Nat:=(Rc.sortK Rc.scoreO (fun p:Name×Nat=>Rc.scoreN (boats c).length (howMany c r) ((races c).take r) p.1) (boats c).zipIdx).map Prod.snd
def spOrder (T:Tx P w K mg):Sp:=fun vs H Q _=>∃ (a:SerAd) (c:Series) (t:Bytes) (r:Nat),vs=[.ref a.o,natV r]∧SerAt T.Race.C T.Series.C H a c t∧r≤(races c).length∧Tabs T H ∧
 ∀ (H':Hp) (p:Addr),Sm T H H'→H p=none→H' p=some (.lst (natsV (orderC c r)))→Q (.ref p) H'
def spOrd (T:Tx P w K mg):Sp:=fun vs H Q _=>∃ (av:Addr→Prop) (d:Addr) (c:Series) (r:Nat),vs=[.ref d,natV r]∧DeskSt T av H d c∧Tabs T H∧Told T av d H Q c (ansL (Wqatcz.told c (.order r)))
theorem scOrd:FnScope ["self","r","refused","boats"] ["self","r"] (defScope s_Desk_order):=⟨rfl,rfl,rfl,by decide +kernel,rfl,by decide +kernel,by decide +kernel⟩
theorem ok_ord (T:Tx P w K mg) (G2:FnOk P w K mg base CX0 10 T.boats_in_order.f T.boats_in_order.fd ["series","r"] (spOrder T)):FnOk P w K mg base CX0 11 T.m_order.f T.m_order.fd ["self","r"] (spOrd T):=by
 have nd:=scOrd.nd
 have G1:=ok_ref (base:=base) T
 refine T.m_order.fn.ok scOrd (fun vs H Q E h=>?_) (fun cdv A outer s H vs Q E hr h=>?_)
 ·obtain ⟨av,d,c,r,rfl,_⟩:=h
  rfl
 obtain ⟨av,d,c,r,rfl,D,B,ht⟩:=h
 have D0:=D
 obtain ⟨htx,dx,a,ea,hd,S⟩:=D
 have F:=S.good.facts
 refine ⟨_,pss_cons (ps_set (i:=2) nd rfl (Or.inl rfl) (pe_meth (pv 0) T.Desk.cl T.m_refusal.me G1 (hr.mono (by decide)) T.m_refusal.bd .nil pass0 (pa_cons (pv 1) (pa_cons (pe_lst pa_nil) pa_nil))))
  (pss_cons (ps_if (pt_cmpR op_ne (pv 2) (pe_gi T.g_GRANTED rfl) (nomark _)) (pss_one (ps_ret (pe_lst (pa_cons (pv 2) pa_nil)))) pss_nil)
  (pss_cons (ps_set (i:=3) nd rfl (Or.inl rfl) (pe_call G2 (hr.mono (by decide)) rfl T.boats_in_order.gl T.boats_in_order.fn.kp T.boats_in_order.bd .nil pass0 (pa_cons (pe_fld (pv 0) rfl) (pa_cons (pv 1) pa_nil))))
  (pss_one (ps_ret (pe_op op_cat (pe_lst (pa_cons (pe_callB call_len_seq (by rfl) T.n_len PySem.boot_len (pa_cons (pv 3) pa_nil)) pa_nil)) (pv 3)))))),?_⟩
 refine ⟨_,rfl,d,dx,_,rfl,hd,desk_no (by decide),_,rfl,Nat.zero_le _,fun bl hbl=>?_⟩
 have s1:Same H (upd H bl (.lst [])):=Same.new hbl
 refine ⟨av,d,c,r,[],bl,rfl,D0.keep (Kp.of s1),upd_same,?_⟩
 have eref:refN c r []=if (races c).length < r then -8 else 0:=by
  unfold refN
  split <;> rfl
 ((try dsimp only [tSeq,tNext,gName]); apply rd_if; exact (evt_test (ev_ne (ev_var rfl) ev_c)))
 ·intro h
  rw [dec_zeroI,eref] at h
  have h0:(races c).length < r:=Classical.byContradiction fun z=>by rw [if_neg z] at h; cases h
  refine ⟨_,rfl,(by show 1≤sizeLine; decide),fun p hp=>?_⟩
  refine ht.sm D0 (Sm.of B (s1.put (s1.free hp))) (s1.free hp) ?_
  rw [upd_same,eref,if_pos h0]
  show _=some (HO.lst (intsV (ansL (if (races c).length < r then Wqatcz.WRONG else _))))
  rw [if_pos h0]
  rfl
 intro h
 rw [dec_zeroI,eref] at h
 have h0:¬ (races c).length < r:=fun z=>by rw [if_pos z] at h; cases h
 have hr1:r≤(races c).length:=by omega
 refine ⟨_,rfl,d,_,dx,_,_,rfl,s1 _ _ hd,T.Desk.cl,T.a_Desk_series,desk_ser _,_,rfl,a,c,seriesText c,r,rfl,S.keep (Kp.of s1),hr1,B.same s1,fun H1 po m1 hpo h1=>?_⟩
 have m2:Sm T H H1:=(Sm.of B s1).trans m1
 refine ⟨_,rfl,po,_,rfl,.inl (SqL.of h1),(by show 1≤sizeLine; decide),fun l hl=>?_⟩
 have m4:=m2.new (o:=.lst [.int ((natsV (orderC c r)).length:Nat)]) hl
 have hpl:po≠l:=ne_of_none h1 hl
 have hol:(orderC c r).length≤64:=by
  unfold orderC
  rw [List.length_map,(Rc.sortK_perm _).length_eq,List.length_zipIdx]
  exact F.nb
 refine ⟨_,rfl,l,po,_,_,rfl,rfl,upd_same,by rw [upd_ne hpl]; exact h1,?_,fun p hp=>?_⟩
 ·rw [natsV_len]
  show 1 + _≤sizeLine
  exact line10 (by omega)
 ·refine ht.sm D0 (m4.new hp) (m4.free hp) ?_
  rw [upd_same,Rc.order_told F hr1,natsV_len]
  show some (HO.lst ([V.int _]++natsV _))=some (HO.lst (intsV (_::(_:List Nat).map WqatczNeutral.int)))
  unfold intsV
  rw [List.map_cons]
  show _=some (HO.lst (V.int _::intsV ((orderC c r).map WqatczNeutral.int)))
  rw [intsV_nats]
  rfl
end
end Rv
end
section
namespace Rc
section
variable {α β γ:Type}
theorem insK_agree {O:Ord α} {O':Ord γ} {key:β→α} {key':β→γ} (b:β):∀ {l:List β},(∀ a∈l,O'.lt (key' a) (key' b)=O.lt (key a) (key b))→insK O' key' b l=insK O key b l
 | [],_=>rfl
 | a::l,h=>by
  unfold insK
  rw [h a List.mem_cons_self,insK_agree b fun x hx=>h x (List.mem_cons_of_mem _ hx)]
theorem sortK_agree {O:Ord α} {O':Ord γ} {key:β→α} {key':β→γ}:∀ {l:List β},(∀ a∈l,∀ b∈l,O'.lt (key' a) (key' b)=O.lt (key a) (key b))→sortK O' key' l=sortK O key l
 | [],_=>rfl
 | x::l,h=>by
  show insK O' key' x (sortK O' key' l)=insK O key x (sortK O key l)
  rw [sortK_agree fun a ha b hb=>h a (List.mem_cons_of_mem _ ha) b (List.mem_cons_of_mem _ hb)]
  exact insK_agree x fun a ha=>h a (List.mem_cons_of_mem _ ((sortK_perm l).mem_iff.mp ha)) x List.mem_cons_self
def rank (O:Ord α) (L:List α) (a:α):Nat:=L.countP fun x=>O.lt x a
theorem countP_less {p q:α→Bool} {a:α}:∀ {L:List α},(∀ x,p x=true→q x=true)→a∈L→q a=true→p a=false→L.countP p < L.countP q
 | [],_,h,_,_=>by cases h
 | x::L,hpq,h,hq,hp=>by
  rw [List.countP_cons,List.countP_cons]
  rcases List.mem_cons.mp h with rfl | h
  ·rw [hq,hp]
   have:=List.countP_mono_left (l:=L) (p:=p) (q:=q) fun x _=>hpq x
   simp only [if_true,Bool.false_eq_true,if_false]
   omega
  ·have ih:=countP_less hpq h hq hp
   have:(if p x=true then 1 else 0)≤(if q x=true then 1 else 0):=by
    cases e:p x with
    | false=>simp
    | true=>rw [hpq x e]; simp
   omega
theorem rank_lt {O:Ord α} {L:List α} {a b:α} (ha:a∈L):decide (rank O L a < rank O L b)=O.lt a b:=by
 cases h:O.lt a b with
 | true =>
  refine decide_eq_true (countP_less (a:=a) (fun x hx=>?_) ha h (O.irr a))
  rcases O.neg x b a hx with h' | h'
  ·exact h'
  ·rw [O.asym a b h] at h'; cases h'
 | false =>
  refine decide_eq_false (Nat.not_lt.mpr (List.countP_mono_left fun x _ hx=>?_))
  rcases O.neg x a b hx with h' | h'
  ·exact h'
  ·rw [h] at h'; cases h'
theorem rank_le {O:Ord α} {L:List α} {a:α}:rank O L a < L.length + 1:=Nat.lt_succ_of_le List.countP_le_length
end
end Rc
namespace Rv
open PySem PySem.Spec PyProof.Rows L2
def noneObj (r:Nat):Obj:=seqObj "tuple" (Array.replicate r Value.none) 0
def sh2 (N:Nat) (s:Shared):Shared:={ s with heap:={ objs:=((List.range N).map noneObj).toArray } }
theorem get_sh2 {N r:Nat} {s:Shared} (h:r < N):(sh2 N s).heap.get? r=some (noneObj r):=by
 have e:(((List.range N).map noneObj).toArray)[r]?=some (noneObj r):=by simp [h]
 show Heap.get? { objs:=((List.range N).map noneObj).toArray } r=_
 unfold Heap.get?
 dsimp only
 rw [e]
 rfl
theorem get_sh2_none {N r:Nat} {s:Shared} (h:¬ r < N):(sh2 N s).heap.get? r=none:=by
 have e:(((List.range N).map noneObj).toArray)[r]?=none:=by simp; omega
 show Heap.get? { objs:=((List.range N).map noneObj).toArray } r=_
 unfold Heap.get?
 dsimp only
 rw [e]
section
variable {M:Model} {Γ:PySem.Ctx} {E:Value→Pos→Shared→Prop} {p:Pos} {s:Shared}
theorem wp_items {Q:Array Value→Pos→Shared→Prop} {a:Addr} {o:Obj} {xs:Array Value} {n:Nat} (ho:s.heap.get? a=some o) (hd:o.data=.seq xs n):Sem.wp M Γ (Builtin.List.listItems (.ref a)) Q E p s=Q xs p s:=by
 unfold Builtin.List.listItems seqItems?
 rw [Sem.wp_bind']
 dsimp only
 rw [Sem.wp_bind',Sem.wp_load_of _ _ _ _ _ ho]
 rw [hd]
 rfl
theorem wp_items_none {Q:Array Value→Pos→Shared→Prop} {a:Addr} (ho:s.heap.get? a=none):Sem.wp M Γ (Builtin.List.listItems (.ref a)) Q E p s=False:=by
 unfold Builtin.List.listItems seqItems?
 rw [Sem.wp_bind']
 dsimp only
 rw [Sem.wp_bind',Sem.wp_cmd_load,ho]
 refine propext ⟨fun h=>?_,fun h=>h.elim⟩
 obtain ⟨o,h,_⟩:=h
 cases h
theorem wp_eqNone {Q:Bool→Pos→Shared→Prop}:Sem.wp M Γ (eqBool .none .none) Q E p s=Q true p s:=by
 unfold eqBool
 rw [Sem.wp_holding,if_pos (beq_self_eq_true _),Sem.wp_bind']
 rfl
theorem wp_loopNone {body:(Value×Value)×Nat→Option Bool×Unit→Sem (ForInStep (Option Bool×Unit))}
  (hb:∀ (i:Nat) (Q:ForInStep (Option Bool×Unit)→Pos→Shared→Prop) (E:Value→Pos→Shared→Prop) (p:Pos),Sem.wp M Γ (body ((.none,.none),i) (none,())) Q E p s=Q (.yield (none,())) p s) :
  ∀ (l:List (Value×Value)) (i:Nat),(∀ x∈l,x=(Value.none,Value.none))→∀ (Q:Option Bool×Unit→Pos→Shared→Prop) (E:Value→Pos→Shared→Prop) (p:Pos),Sem.wp M Γ (forIn (l.zipIdx i) (none,()) body) Q E p s=Q (none,()) p s
 | [],i,_,Q,E,p=>by
  rw [List.zipIdx_nil,List.forIn_nil,Sem.wp_pure']
 | x::l,i,h,Q,E,p=>by
  have e:=h x List.mem_cons_self
  subst e
  rw [List.zipIdx_cons,List.forIn_cons,Sem.wp_bind',hb]
  exact wp_loopNone hb l (i + 1) (fun y hy=>h y (List.mem_cons_of_mem _ hy)) Q E p
theorem zip_none {a b:Nat}:∀ x∈(Array.replicate a Value.none).toList.zip (Array.replicate b Value.none).toList,x=(Value.none,Value.none):=fun x hx=>by
 obtain ⟨h1,h2⟩:=List.of_mem_zip (a:=x.1) (b:=x.2) hx
 rw [Array.toList_replicate] at h1 h2
 obtain ⟨y,z⟩:=x
 have e1:=(List.mem_replicate.mp h1).2
 have e2:=(List.mem_replicate.mp h2).2
 dsimp only at e1 e2
 rw [e1,e2]
theorem wp_ltNone {N a b:Nat} {Q:Bool→Pos→Shared→Prop} (ha:a < N) (hb:b < N):Sem.wp M Γ (keyLt' (tuples' false) (.ref a) (.ref b)) Q E p (sh2 N s)=Q (decide (a < b)) p (sh2 N s):=by
 rw [PyProof.Rows.kat_lt_eq,Sem.wp_bind',wp_items (get_sh2 ha) rfl]
 rw [Sem.wp_bind',wp_items (get_sh2 hb) rfl]
 rw [Sem.wp_bind']
 refine (wp_loopNone (fun i Q E p=>?_) _ 0 zip_none _ _ _).trans ?_
 ·dsimp only
  rw [Sem.wp_bind',wp_eqNone]
  rfl
 ·dsimp only
  rw [Sem.wp_pure',Array.size_replicate,Array.size_replicate]
theorem wp_ltNone_l {N a b:Nat} {Q:Bool→Pos→Shared→Prop} (ha:¬ a < N):Sem.wp M Γ (keyLt' (tuples' false) (.ref a) (.ref b)) Q E p (sh2 N s)=False:=by
 rw [PyProof.Rows.kat_lt_eq,Sem.wp_bind',wp_items_none (get_sh2_none ha)]
theorem wp_ltNone_r {N a b:Nat} {Q:Bool→Pos→Shared→Prop} (ha:a < N) (hb:¬ b < N):Sem.wp M Γ (keyLt' (tuples' false) (.ref a) (.ref b)) Q E p (sh2 N s)=False:=by
 rw [PyProof.Rows.kat_lt_eq,Sem.wp_bind',wp_items (get_sh2 ha) rfl]
 rw [Sem.wp_bind',wp_items_none (get_sh2_none hb)]
end
def keyR (N:Nat) (v:Value):Option Nat:=match v with
 | .ref r=>if r < N then some r else none
 | _=>none
theorem keyR_some {N r:Nat} {v:Value} (h:keyR N v=some r):v=.ref r∧r < N:=by
 cases v <;> simp [keyR] at h
 obtain ⟨h1,rfl⟩:=h
 exact ⟨rfl,h1⟩
theorem ltR {prog:Program} {w:World} {N:Nat} {s:Shared}:G.LtAt prog w (sh2 N s) (kindO Rc.natO (keyR N) 0) (tuples' false):=by
 intro A E x y a b Q ha hb h
 obtain ⟨rfl,h1⟩:=keyR_some (show keyR N x=some a from ha)
 obtain ⟨rfl,h2⟩:=keyR_some (show keyR N y=some b from hb)
 intro Γ p hΓ
 rw [wp_ltNone h1 h2]
 exact h
section
variable {X:Cx} {A:Around} {E:Value→Shared→Prop} {s:Shared} {α:Type} {O:Rc.Ord α} {L:List α} {keyOf:Value→Option α}
def phi (O:Rc.Ord α) (L:List α) (keyOf:Value→Option α) (v:Value):Value:=match keyOf v with
 | some a=>.ref (Rc.rank O L a)
 | none=>.ref (L.length + 1)
def simC (X:Cx) (E:Value→Shared→Prop) (s:Shared) (O:Rc.Ord α) (L:List α) (keyOf:Value→Option α) (kd:SortKind) (Γ:PySem.Ctx):SC:=⟨model X.prog X.w,Γ,s,sh2 (L.length + 1) s,kd,tuples' false,phi O L keyOf,fun v _ s=>E v s⟩
theorem simC_lt {kd:SortKind} {Γ:PySem.Ctx} (hΓ:Γ.In A) (mem:∀ v a,keyOf v=some a→a∈L)
  (hlt:∀ (x y:Value) (a b:α) (Q:Bool→Shared→Prop) (E:Value→Shared→Prop),keyOf x=some a→keyOf y=some b→Q (O.lt a b) s→wpAny (model X.prog X.w) A (keyLt' kd x y) Q E s):(simC X E s O L keyOf kd Γ).Lt:=by
 intro x y Q Ee p2 w
 have w':Sem.wp (model X.prog X.w) Γ (keyLt' (tuples' false) (phi O L keyOf x) (phi O L keyOf y)) Q Ee p2 (sh2 (L.length + 1) s):=w
 unfold phi at w'
 cases hx:keyOf x with
 | none =>
  rw [hx] at w'
  cases hy:keyOf y with
  | none=>rw [hy] at w'; dsimp only at w'; rw [wp_ltNone_l (Nat.lt_irrefl _)] at w'; exact w'.elim
  | some b=>rw [hy] at w'; dsimp only at w'; rw [wp_ltNone_l (Nat.lt_irrefl _)] at w'; exact w'.elim
 | some a =>
  rw [hx] at w'
  cases hy:keyOf y with
  | none=>rw [hy] at w'; dsimp only at w'; rw [wp_ltNone_r Rc.rank_le (Nat.lt_irrefl _)] at w'; exact w'.elim
  | some b =>
   rw [hy] at w'
   dsimp only at w'
   rw [wp_ltNone Rc.rank_le Rc.rank_le,Rc.rank_lt (mem x a hx)] at w'
   refine ⟨_,p2,w',fun Q1 E1 p1 h=>?_⟩
   refine Sem.wp_mono _ _ _ (fun r p s' hr=>?_) (fun _ _ _ e=>?_) p1 s (hlt x y a b (fun r s'=>r=O.lt a b∧s'=s) (fun _ _=>False) hx hy ⟨rfl,rfl⟩ Γ p1 hΓ)
   ·obtain ⟨rfl,rfl⟩:=hr
    exact h p
   ·exact e.elim
theorem zip_phi {keys vs:List Value} {c:SC}:(keys.toArray.zip vs.toArray).map c.f=(keys.map c.ph).toArray.zip vs.toArray:=by
 apply Array.toList_inj.mp
 simp only [Array.toList_map,Array.toList_zip,List.toList_toArray]
 rw [List.zip_map_left]
 rfl
theorem map_f_snd {arr:Array Keyed} {c:SC}:(arr.map c.f).map (·.2)=arr.map (·.2):=by
 rw [Array.map_map]
 rfl
theorem sorts_sim {kd:SortKind} {keys vs:List Value} {ns:List Nat} {key:Nat→α} (mem:∀ v a,keyOf v=some a→a∈L)
  (hlt:∀ (x y:Value) (a b:α) (Q:Bool→Shared→Prop) (E:Value→Shared→Prop),keyOf x=some a→keyOf y=some b→Q (O.lt a b) s→wpAny (model X.prog X.w) A (keyLt' kd x y) Q E s)
  (hl:keys.length=vs.length) (h2:2≤keys.length) (hv:Vals (natsV ns) vs) (hky:∀ (i:Nat) (u:Value),keys[i]?=some u→∃ n,ns[i]?=some n∧keyOf u=some (key n)) :
  SortsAt X A E s kd (keys.toArray.zip vs.toArray) (fun xs=>Vals (natsV (Rc.sortK O key ns)) xs.toList):=by
 unfold SortsAt wpS
 intro Γ p hΓ
 have S:=sim_sortRuns (simC_lt (E:=E) hΓ mem hlt)
 have hlen:ns.length=vs.length:=by have:=hv.length; unfold natsV at this; rwa [List.length_map] at this
 have hk2:∀ (i:Nat) (u:Value),(keys.map (phi O L keyOf))[i]?=some u→∃ n,ns[i]?=some n∧keyR (L.length + 1) u=some (Rc.rank O L (key n)):=fun i u h=>by
  rw [List.getElem?_map] at h
  cases e:keys[i]? with
  | none=>rw [e] at h; cases h
  | some v =>
   rw [e] at h
   obtain ⟨n,h1,h2⟩:=hky i v e
   refine ⟨n,h1,?_⟩
   have h3:phi O L keyOf v=u:=Option.some.inj h
   rw [←h3]
   unfold phi
   rw [h2]
   show (if Rc.rank O L (key n) < L.length + 1 then some _ else none)=_
   rw [if_pos Rc.rank_le]
 have esort:Rc.sortK Rc.natO (fun n=>Rc.rank O L (key n)) ns=Rc.sortK O key ns:=Rc.sortK_agree fun a ha b hb=>by
  obtain ⟨i,hi⟩:=List.getElem?_of_mem ha
  have hi':i < keys.length:=by rw [hl,←hlen]; exact (List.getElem?_eq_some_iff.mp hi).1
  obtain ⟨n,h1,h2⟩:=hky i _ (List.getElem?_eq_getElem hi')
  rw [hi] at h1
  cases h1
  exact Rc.rank_lt (mem _ _ h2)
 have W:SortsAt X A (fun _ _=>False) (sh2 (L.length + 1) s) (tuples' false) ((keys.map (phi O L keyOf)).toArray.zip vs.toArray) (fun xs=>Vals (natsV (Rc.sortK O key ns)) xs.toList) :=
  sorts_of (κ:=kindO Rc.natO (keyR (L.length + 1)) 0) ltR (keys_zip fun i u h=>let ⟨n,_,h⟩:=hk2 i u h; ⟨_,h⟩) (by rw [Array.size_zip,List.size_toArray,List.size_toArray,List.length_map]; omega) fun arr hp hs hst=>by
   rw [←esort]
   exact out_sortK Rc.natO (keyR (L.length + 1)) 0 (fun n=>Rc.rank O L (key n)) (by rw [List.length_map]; exact hl) hv hk2 hp hs hst
 have W':=W Γ p hΓ
 have eF:(simC X E s O L keyOf kd Γ).F (SortSt.mk' kd (keys.toArray.zip vs.toArray) #[] 7 none)=SortSt.mk' (tuples' false) ((keys.map (phi O L keyOf)).toArray.zip vs.toArray) #[] 7 none:=by
  show SortSt.mk' (tuples' false) ((keys.toArray.zip vs.toArray).map (simC X E s O L keyOf kd Γ).f) #[] 7 none=_
  rw [zip_phi]
  rfl
 have R:=S (fun r st' _ s'=>s'=sh2 (L.length + 1) s∧(arrOf st').size=((keys.map (phi O L keyOf)).toArray.zip vs.toArray).size∧failedOf st'=none∧Vals (natsV (Rc.sortK O key ns)) ((arrOf st').map (·.2)).toList) (SortSt.mk' kd (keys.toArray.zip vs.toArray) #[] 7 none) p p rfl (by rw [eF]; exact W')
 refine Sem.wp_mono _ _ _ (fun r p' s' h=>?_) (fun _ _ _ e=>e) p s R
 obtain ⟨e1,_,p2,_,h1,h2,h3⟩:=h
 refine ⟨e1,?_,h2,?_⟩
 ·have z:(arrOf ((simC X E s O L keyOf kd Γ).F r.2)).size=(arrOf r.2).size:=Array.size_map
  rw [←z,h1]
  simp only [Array.size_zip,List.size_toArray,List.length_map]
 ·have z:(arrOf ((simC X E s O L keyOf kd Γ).F r.2)).map (·.2)=(arrOf r.2).map (·.2):=map_f_snd
  rw [←z]
  exact h3
end
end Rv
end
section
namespace Rc
theorem insK_map {α β γ:Type} {O:Ord α} {key:γ→α} {f:β→γ} (b:β):∀ l:List β,insK O key (f b) (l.map f)=(insK O (fun x=>key (f x)) b l).map f
 | []=>rfl
 | a::l=>by
  rw [List.map_cons]
  unfold insK
  rw [insK_map b l]
  split <;> rfl
theorem sortK_map {α β γ:Type} {O:Ord α} {key:γ→α} {f:β→γ}:∀ l:List β,sortK O key (l.map f)=(sortK O (fun x=>key (f x)) l).map f
 | []=>rfl
 | x::l=>by
  show insK O key (f x) (sortK O key (l.map f))=(insK O (fun x=>key (f x)) x (sortK O (fun x=>key (f x)) l)).map f
  rw [sortK_map l,insK_map]
end Rc
namespace Rv
open PySem PySem.Spec PyProof.Rows L2
open PySem.W (kla_fn kla_obj envX)
open RgScore (Bytes Name Line Series boats outs races ownOf penOf ascii howMany)
open Classical in
noncomputable def keyS (H:Hp) (L:List Rc.Score) (v:Value):Option Rc.Score:=match v with
 | .ref p=>if h:∃ b,ScoreAt H p b∧b∈L then some h.choose else none
 | _=>none
open Classical in
theorem keyS_some {H:Hp} {L:List Rc.Score} {v:Value} {a:Rc.Score} (h:keyS H L v=some a):∃ p,v=.ref p∧ScoreAt H p a∧a∈L:=by
 unfold keyS at h
 split at h
 ·rename_i p
  by_cases e:∃ b,ScoreAt H p b∧b∈L
  ·rw [dif_pos e] at h
   cases h
   exact ⟨p,rfl,e.choose_spec.1,e.choose_spec.2⟩
  ·rw [dif_neg e] at h
   cases h
 ·cases h
open Classical in
theorem keyS_of {H:Hp} {L:List Rc.Score} {p:Addr} {a:Rc.Score} (h:ScoreAt H p a) (hm:a∈L):keyS H L (.ref p)=some a:=by
 have e:∃ b,ScoreAt H p b∧b∈L:=⟨a,h,hm⟩
 unfold keyS
 dsimp only
 rw [dif_pos e]
 exact congrArg some (e.choose_spec.1.inj h)
section
variable {X:Cx} {pins:List (Addr×Obj)} {σ:L2.St} {H:Hp} {s:Shared}
theorem lt_score {A:Around} {E:Value→Shared→Prop} {p q:Addr} {a b:Rc.Score} {Q:Bool→Shared→Prop} (I:Inv X pins σ H s) (hp:ScoreAt H p a) (hq:ScoreAt H q b) (hu:A.units + 64 < cLine) (h:Q (Rc.scoreLt a b) s) :
  wpAny (model X.prog X.w) A (keyLt' (tuples' true) (.ref p) (.ref q)) Q E s:=by
 obtain ⟨x,y,h1,h2,h3⟩:=hp
 obtain ⟨x',y',h1',h2',h3'⟩:=hq
 obtain ⟨its,r,⟨o,ho,_,n,hd⟩,_⟩:=I.tuple (SqT.of h1)
 obtain ⟨its',r',⟨o',ho',_,n',hd'⟩,_⟩:=I.tuple (SqT.of h1')
 refine PySem.W.kat_lt ho hd ho' hd' ?_
 cases r with
 | cons ra r =>
  cases r with
  | cons rb r =>
   cases r with
   | cons rc r =>
    cases r
    cases r' with
    | cons ra' r' =>
     cases r' with
     | cons rb' r' =>
      cases r' with
      | cons rc' r' =>
       cases r'
       obtain ⟨t,rfl⟩:=ra
       obtain ⟨t',rfl⟩:=ra'
       cases rb
       cases rc
       cases rb'
       cases rc'
       have e0:=SeqAt.EqAt.int_int (A:=A) (s:=s) (a.total:Int) t (b.total:Int) t'
       show PySem.W.KatLex X.prog X.w A true _ Q [(_,_),(_,_),(_,_)] 0 s
       unfold Rc.scoreLt at h
       by_cases q1:a.total=b.total
       ·rw [if_pos q1] at h
        rw [show (((a.total:Nat):Int)==((b.total:Nat):Int))=true by rw [q1]; simp] at e0
        refine PySem.W.kat_cons (e0 _ _ _ _ (PySem.W.kat_yes ?_))
        have e1:=eqAt_nats (A:=A) I h2 h2' hu
        by_cases q2:a.best=b.best
        ·rw [if_pos q2] at h
         rw [decide_eq_true q2] at e1
         refine PySem.W.kat_cons (e1 _ _ _ _ (PySem.W.kat_yes ?_))
         have e2:=eqAt_nats (A:=A) I h3 h3' hu
         by_cases q3:a.back=b.back
         ·rw [decide_eq_true q3] at e2
          rw [q3,Rc.pyLt_irr] at h
          exact PySem.W.kat_cons (e2 _ _ _ _ (PySem.W.kat_yes (PySem.W.kat_nil h)))
         ·rw [decide_eq_false q3] at e2
          exact PySem.W.kat_cons (e2 _ _ _ _ (PySem.W.kat_no (PySem.W.kat_one _ _ (lt_nats I h3 h3' (by omega) _ _ h))))
        ·rw [if_neg q2] at h
         rw [decide_eq_false q2] at e1
         exact PySem.W.kat_cons (e1 _ _ _ _ (PySem.W.kat_no (PySem.W.kat_one _ _ (lt_nats I h2 h2' (by omega) _ _ h))))
       ·rw [if_neg q1] at h
        rw [show (((a.total:Nat):Int)==((b.total:Nat):Int))=false by simp; omega] at e0
        refine PySem.W.kat_cons (e0 _ _ _ _ (PySem.W.kat_no (oneLt_int ?_)))
        rw [show decide (((a.total:Nat):Int) < ((b.total:Nat):Int))=decide (a.total < b.total) from decide_eq_decide.mpr (by omega)]
        exact h
theorem kat_scores (I:Inv X pins σ H s):∀ {keys:List Value},(∀ u∈keys,∃ p a,u=.ref p∧ScoreAt H p a)→∃ fs,PySem.W.KatTups s.heap keys fs∧fs.length=keys.length∧∀ v∈fs,∃ n t,v=Value.int n t
 | [],_=>⟨[],PySem.W.KatTups.nil,rfl,fun _ h=>by cases h⟩
 | u::keys,h=>by
  obtain ⟨p,a,rfl,hs⟩:=h u List.mem_cons_self
  obtain ⟨fs,h1,h2,h3⟩:=kat_scores I (keys:=keys) fun v hv=>h v (List.mem_cons_of_mem _ hv)
  obtain ⟨x,y,h4,_,_⟩:=hs
  obtain ⟨its,r,⟨o,ho,hc,n,hd⟩,_⟩:=I.tuple (SqT.of h4)
  cases r with
  | cons ra r =>
   obtain ⟨t,rfl⟩:=ra
   refine ⟨_::fs,PySem.W.KatTups.cons ho hc hd rfl h1,by rw [List.length_cons,List.length_cons,h2],fun v hv=>?_⟩
   rcases List.mem_cons.mp hv with rfl | hv
   ·exact ⟨_,_,rfl⟩
   ·exact h3 v hv
theorem kinds_score {A:Around} {E':Value→Shared→Prop} {L:List Rc.Score} {keys vs:List Value} {ns:List Nat} {key:Nat→Rc.Score} {Qk:SortKind→Shared→Prop} (I:Inv X pins σ H s) (hu:A.units + 64 < cLine) (h2:2≤keys.length) (hl:keys.length=vs.length) (hv:Vals (natsV ns) vs)
  (hky:∀ (i:Nat) (u:Value),keys[i]?=some u→∃ n,ns[i]?=some n∧keyS H L u=some (key n))
  (hq:∀ kd,SortsAt X A E' s kd (keys.toArray.zip vs.toArray) (fun xs=>Vals (natsV (Rc.sortK Rc.scoreO key ns)) xs.toList)→Qk kd s):wpAny (model X.prog X.w) A (keyKind' keys.toArray) Qk E' s:=by
 obtain ⟨fs,h3,h4,h5⟩:=kat_scores I (keys:=keys) fun u hu=>by
  obtain ⟨i,hi⟩:=List.getElem?_of_mem hu
  obtain ⟨n,_,h⟩:=hky i u hi
  obtain ⟨p,rfl,h,_⟩:=keyS_some h
  exact ⟨p,_,rfl,h⟩
 refine PySem.W.kat_kind (T:=.type "int") h3 (by omega) (fun v hv=>?_) rfl ?_
 ·obtain ⟨n,t,rfl⟩:=h5 v hv
  exact PySem.W.Looks.of_pure rfl
 ·rw [show (Value.type "int" != Value.type "tuple")=true by decide]
  refine hq _ (sorts_sim (O:=Rc.scoreO) (L:=L) (keyOf:=keyS H L) (fun v a h=>let ⟨_,_,_,m⟩:=keyS_some h; m) (fun x y a b Q E hx hy h=>?_) hl h2 hv hky)
  obtain ⟨p,rfl,hp,_⟩:=keyS_some hx
  obtain ⟨q,rfl,hq,_⟩:=keyS_some hy
  exact lt_score I hp hq hu h
theorem vals_idx:∀ {xs:List V} {us:List Value},xs.length=us.length→(∀ (i:Nat) (x:V) (u:Value),xs[i]?=some x→us[i]?=some u→RelV x u)→Vals xs us
 | [],[],_,_=>.nil
 | [],_::_,h,_=>by cases h
 | _::_,[],h,_=>by cases h
 | x::xs,u::us,hl,h=>.cons (h 0 x u rfl rfl) (vals_idx (Nat.succ.inj hl) fun i y v e1 e2=>h (i + 1) y v e1 e2)
theorem collect_range {prog:Program} {w:World} {A:Around} {E:Value→Shared→Prop} {r:Addr} {n:Nat} {t u v:Tok} {Q:List Value→Shared→Prop} (hh:A.handled=none) (hr:IsRange s.heap r 0 (n:Int) 1 t u v) (hn:n≤1000)
  (h:∀ (h':Heap) (tk:Nat) (vs:List Value),(∀ b o,s.heap.get? b=some o→h'.get? b=some o)→Vals (natsV (List.range n)) vs→Q vs { s with heap:=h',toks:=tk }):wpAny (model prog w) A (collect (.ref r)) Q E s:=by
 unfold collect
 refine wpAny_bind (wpAny_runValue (codeAny_builtin F.entry_proto_collect ?_))
 rw [Around.under_plainId F.plain_proto_collect _]
 show wpAny _ A.in1 (newList [] >>= fun l=>again (.builtin "list.__iadd__" ⟨[l,.ref r],[]⟩)) _ _ s
 refine wpAny_bind (wpAny_newObj_type ?_)
 refine wpAny_pure ⟨plainId_quiet F.plain_list_iadd _,codeAny_builtin F.entry_list_iadd ?_⟩
 rw [Around.under_plainId F.plain_list_iadd _]
 show wpAny _ A.in1 (Builtin.List.listExtendWith (.ref s.heap.objs.size) (.ref r) (.ref s.heap.objs.size)) _ _ _
 have key:∀ s':Shared,(∃ (h':Heap) (tk:Nat) (acc':Array Value) (c':Nat),s'={ s with heap:=h',toks:=tk }∧(∀ b o,s.heap.get? b=some o→h'.get? b=some o)∧h'.get? s.heap.objs.size=some { cls:=.type "list",dict:=none,data:=.seq acc' c',slots:=#[] }∧ItemsOf (fun i v=>∃ t,v=.int (0 + i * 1) t) acc' n) →
   wpAny (model prog w) A (do
   let o ← load s.heap.objs.size
   match o.data with
   | .seq xs _=>pure xs.toList
   | _=>unsupported "internal:collect") Q E s':=by
  rintro s' ⟨h',tk,acc',c',rfl,hk,hS,hacc⟩
  refine wpAny_bind (wpAny_load hS ?_)
  refine wpAny_pure (h h' tk acc'.toList hk (vals_idx ?_ fun i x u e1 e2=>?_))
  ·unfold natsV
   rw [List.length_map,List.length_range,Array.length_toList,hacc.1]
  ·rw [Array.getElem?_toList] at e2
   obtain ⟨t,rfl⟩:=hacc.2 i u e2
   have hi:i < n:=by rw [←hacc.1]; exact (Array.getElem?_eq_some_iff.mp e2).1
   unfold natsV at e1
   rw [List.getElem?_map,List.getElem?_range hi] at e1
   cases e1
   refine ⟨t,?_⟩
   rw [Int.zero_add,Int.mul_one]
 have X:=wpAny_extend_range (prog:=prog) (w:=w) (s:={ s with heap:=s.heap.push { cls:=.type "list",data:=.seq ([]:List Value).toArray } }) (A:=A) (n:=n) (R:=fun r s'=>r=.ok (.ret (.ref s.heap.objs.size))∧∃ (h':Heap) (tk:Nat) (acc':Array Value) (c':Nat),s'={ s with heap:=h',toks:=tk }∧(∀ b o,s.heap.get? b=some o→h'.get? b=some o)∧h'.get? s.heap.objs.size=some { cls:=.type "list",dict:=none,data:=.seq acc' c',slots:=#[] }∧ItemsOf (fun i v=>∃ t,v=.int (0 + i * 1) t) acc' n)
  hh (Heap.get?_push_of_some _ hr) (small_one (a:=0) (b:=(n:Int)) (by omega) (by omega) (by omega) (by omega)) (by rw [rangeSize_one]; split <;> omega) (by omega) s.heap.objs.size (.ref s.heap.objs.size) 0 (Heap.get?_push_size _ rfl) fun h' tk acc' c' hk hS hacc=>⟨rfl,h',tk,acc',c',rfl,fun b o e=>hk b o (Nat.ne_of_lt (Heap.lt_size e)) (Heap.get?_push_of_some _ e),hS,hacc⟩
 refine wpAny_mono X (fun fin s' hf=>?_) (fun e s' he=>?_)
 ·cases fin with
  | done f =>
   obtain ⟨e,hp⟩:=hf
   cases e
   exact key s' hp
  | again c' =>
   obtain ⟨q1,q2⟩:=hf
   refine ⟨q1,codeAny_mono q2 fun r s'' hr=>?_⟩
   obtain ⟨rfl,hp⟩:=hr
   exact key s'' hp
 ·cases he.1
def tRng (ta:TA):TE:=fun σ H Q=>ta σ H fun vs H1=>∃ n:Nat,vs=[.int (n:Int)]∧∀ q,H1 q=none→Q (.ref q) (upd H1 q (.rng 0 (n:Int)))
theorem pe_rng {a:Expr} {ta:TA} {p pos:Pos} (hg:Gl X "range") (hm:X.mg "range"=none) (ha:PA X [a] ta) (hs:starEach [a] X.env=[(false,eval a X.env)]:=by rfl):PE X (.Call (.Name "range" p) [a] [] pos) (tRng ta):=by
 intro pins s σ H Q I h
 refine Call_ (ld_blt I hg hm boot_range (PyProof.Rows.callWith_type1 (thn (ha pos pins s σ H _ I h) fun us s1 ⟨vs,H1,I1,r1,q1⟩=>?_) hs rfl))
 obtain ⟨n,e,q⟩:=q1
 subst e
 cases r1 with
 | cons r rr =>
  cases rr
  obtain ⟨t,rfl⟩:=r
  refine call_range_1 ?_
  exact ⟨.ref s1.heap.objs.size,_,I1.laid (o:=.rng 0 (n:Int)) (fun b o e=>Heap.get?_push_of_some _ e) (Nat.le_refl _) ⟨_,_,_,Heap.get?_push_size _ rfl⟩,rfl,q _ (I1.hok.fresh (Nat.le_refl _))⟩
end
section
variable {X:Cx} {e body:Expr} {te:TE} {params:Arguments} {scope:Scope} {x fv nm:Str} {lpos kpos p pos:Pos} {c P:Addr} {j k:Nat}
def restR (P:Addr) (lpos:Pos) (lq:Str) (j:Nat) (tb:TE) (σ:L2.St) (Q:VK) (v:V) (H1:Hp):Prop:=∃ (a:Addr) (n:Nat) (z:V),v=.ref a∧H1 a=some (.rng 0 (n:Int))∧n≤1000∧TabOk H1 P lpos lq∧σ[j]?=some (some z) ∧
 ∀ H2,Lam H1 H2 P lpos lq→∃ key:Nat→Rc.Score,(∀ k,k < n→tb [some (.int (k:Int)),some z] H2 fun u H3=>H3=H2∧∃ p,u=.ref p∧ScoreAt H2 p (key k))∧∀ q,H2 q=none→Q (.ref q) (upd H2 q (.lst (natsV (Rc.sortK Rc.scoreO key (List.range n)))))
def tSortR (P:Addr) (lpos:Pos) (lq:Str) (j:Nat) (te tb:TE):TE:=fun σ H Q=>te σ H (restR P lpos lq j tb σ Q)
theorem pe_sortR {tb:TE} (hcalm:X.calm=true) (hr:Room 4 X.A) (hg:Gl X "sorted") (hm:X.mg "sorted"=none) (he:PE X e te) (S:LamScope scope x fv) (hcode:X.env.code=.ref c) (hd:PySem.W.codeHdIn X.K c P=true) (B:BMain X.mg X.base)
  (hclo:∀ cells,cloFrom cells scope.names []=[(fv,(cells.lookup fv).getD 0)]) (hdef:defaultsOf params X.env=([],[]))
  (hbind:∀ (qual:Str) (cl:List (Str×Addr)) (pm cd ctv v:Value),bindArgs (kla_fn "<lambda>" qual params body scope cl pm cd ctv) ⟨[v],[]⟩=pure [(x,v)])
  (hN:X.N[j]?=some fv) (hcv:X.env.scope.names.lookup fv=some .cell)
  (hbody:∀ (A:Around) (f:Addr) (cd:Value) (c:Addr) (s:Shared) (H:Hp),PE (cxLam X A x fv (X.env.qual++"<lambda>") scope f cd c s H) body tb)
  (hs1:starEach [e] X.env=[(false,eval e X.env)]:=by rfl) :
  PE X (.Call (.Name "sorted" p) [e] [⟨some "key",.Lambda params body scope lpos,kpos⟩] pos) (tSortR P lpos (X.env.qual++"<lambda>") j te tb):=by
 intro pins s σ H Q I h
 refine wpAny_Call_Name_kw (ld_blt I hg hm boot_sorted ?_)
 have hfree:∃ cell,X.env.cells.lookup fv=some cell:=I.ok.has fv (.inl hcv)
 obtain ⟨cell,hcell⟩:=hfree
 refine PyProof.Rows.callWith_kw (thn (pa_cons he pa_nil hs1 pos pins s σ H (oneV (restR P lpos (X.env.qual++"<lambda>") j tb σ Q)) I h) fun us s1 ⟨vs,H1,I1,r1,q1⟩=>?_) (by rw [hs1]; rfl) (by rw [hs1]; rfl)
 obtain ⟨v,u,rfl,ru,a,n,z,rfl,ha,hZ,hT,hz,q⟩:=oneV_of q1 r1
 cases ru
 show wpAny _ _ (evalAll [(do let v ← eval (.Lambda params body scope lpos) X.env; standAt pos; pure v)]) _ _ s1
 have hcl:closureFor scope X.env=pure [(fv,cell)]:=by
  rw [closure_ok fun y hy e=>⟨cell,by rw [S.free y hy e]; exact hcell⟩,hclo,hcell]
  rfl
 refine wpAny_evalAll_cons (wpAny_bind (lam_make I1 hT hcode hd B hcl hdef fun f c' ctv H2 s2 I2 L hfge hfn hf hrec hx=>?_))
 refine wpAny_bind (wpAny_standAt (wpAny_pure (wpAny_evalAll_nil ?_)))
 show wpAny _ _ (call (.builtin "sorted") [.ref a] [(Str.ofString "key",.ref f)]) _ _ s2
 obtain ⟨key,hk,q⟩:=q H2 L
 have ha2:H2 a=some (.rng 0 (n:Int)):=L.same a _ ha fun e=>by
  obtain ⟨ps,hP,_⟩:=hT
  rw [e,hP] at ha; cases ha
 obtain ⟨t1,t2,t3,hrg⟩:=I2.hok a _ ha2
 refine call_function_entry_kw kind_sorted plain_sorted entry_sorted (ksk_s1 _ _) ?_
 unfold Builtin.«sorted»
 refine wpAny_bind (m:=checkCount "sorted" 1 1 _) (wpAny_pure ?_)
 show wpAny (model X.prog X.w) X.A.in1 (do let x ← collect (.ref a); let l ← newList x; let _ ← holding [l] (call (.builtin "list.sort") [l] [(Str.ofString "key",.ref f)]); ret l) _ _ s2
 refine wpAny_bind (collect_range (I2.ok.hd hcalm) hrg hZ fun h' tk vs keep rv=>?_)
 have I3:Inv X pins σ H2 { s2 with heap:=h',toks:=tk }:=I2.kept (t':=tk) keep
 have ff:FpOk X pins H2 f:=I1.fpOk hfge hfn
 have hu:X.A.in1.in1.units + 64 < cLine:=(hr.in1.in1).units
 refine sorted_core (O:=Rc.scoreO) (keyOf:=keyS H2 ((List.range n).map key)) (key:=key) (Kx:=fun _=>True) I3 (keep _ _ hf) ff (fun v z=>by
  have z':Data.func _=Data.cell v:=z
  cases z') rv (by rw [List.length_range]; exact hZ) (fun k v pins' s' hkm rkv hm I'=>?_) (fun keys E' s' Qk h2 hl hky I' hq=>kinds_score I' hu h2 hl rv (fun i u hi=>let ⟨n,h1,h2,_⟩:=hky i u hi; ⟨n,h1,h2⟩) hq) q
 have hfo':=I'.pinned_at hm
 have hrec':s'.heap.CodeRec (.ref c') (X.env.qual++"<lambda>"):=codeX_at I'.hok hx
 refine thn (lam_key (k:=2) I' rfl (hr.in1.in1) S hfo' hrec' hbind hN hcv hcell hz rkv hbody (hk k (List.mem_range.mp hkm))) fun u s'' ⟨v',H',I'',rv',e1,p,e2,hs⟩=>?_
 subst e1 e2
 cases rv'
 exact ⟨I'',keyS_of hs (List.mem_map.mpr ⟨k,hkm,rfl⟩),trivial⟩
end
section
variable {P:Program} {w:World} {K:PySem.W.Frag} {mg:Str→Option Value} {base:Heap}
theorem order_eq (c:Series) (r:Nat):Rc.sortK Rc.scoreO (fun k=>scoreC c r ((boats c).getD k [])) (List.range (boats c).length)=orderC c r:=by
 have e:List.range (boats c).length=(boats c).zipIdx.map Prod.snd:=by
  rw [List.range_eq_range',List.zipIdx_map_snd]
 rw [e,Rc.sortK_map]
 unfold orderC
 congr 1
 have g:∀ p∈(boats c).zipIdx,scoreC c r ((boats c).getD p.2 [])=Rc.scoreN (boats c).length (howMany c r) ((races c).take r) p.1:=fun p hp=>by
  obtain ⟨x,k⟩:=p
  have hx:(boats c)[k]?=some x:=List.mk_mem_zipIdx_iff_getElem?.mp hp
  show scoreC c r ((boats c).getD k [])=_
  rw [List.getD_eq_getElem?_getD,hx]
  rfl
 exact Rc.sortK_agree fun a ha b hb=>by rw [g a ha,g b hb]
theorem scOrder:FnScope ["series","r","scores"] ["series","r"] (defScope s_boats_in_order):=⟨rfl,rfl,rfl,by decide +kernel,rfl,by decide +kernel,by decide +kernel⟩
theorem ok_order (T:Tx P w K mg) (B:BMain mg base):FnOk P w K mg base CX0 10 T.boats_in_order.f T.boats_in_order.fd ["series","r"] (spOrder T):=by
 have nd:=scOrder.nd
 have G:=ok_all T B
 refine CodeAt.ok T.code2 scOrder (fun vs H Q E h=>?_) (fun A outer s H vs Q E hr h=>?_)
 ·obtain ⟨a,c,t,r,rfl,_⟩:=h
  rfl
 obtain ⟨a,c,t,r,rfl,S,hr1,B0,q⟩:=h
 have hb:=S.good.facts.nb
 have hsl:(Rc.scoresN c r).length=(boats c).length:=by unfold Rc.scoresN; rw [List.length_map]
 refine ⟨_,pss_cons (ps_set (i:=2) nd rfl (Or.inr rfl) (pe_call G (hr.mono (by decide)) rfl T.all_scores.gl T.all_scores.fn.kp T.all_scores.bd .nil pass0 (pa_cons (pv 0) (pa_cons (pv 1) pa_nil))))
  (pss_one (ps_ret (pe_sortR (tb:=tOp (rIxL K) (tVar 1) (tVar 0)) (x:="boat") (fv:="scores") (j:=2) rfl (hr.mono (by decide)) rfl T.n_sorted (pe_rng rfl T.n_range (pa_cons (pe_callB call_len_seq (by rfl) T.n_len PySem.boot_len (pa_cons (pv 2) pa_nil)) pa_nil)) ⟨rfl,rfl,rfl,rfl,rfl,by decide,by decide +kernel,by decide +kernel⟩ rfl T.hd2 B (fun _=>rfl) rfl (fun _ _ _ _ _ _=>rfl) rfl rfl (fun _ _ _ _ _ _=>pe_ix ix_list (pv 1) (pv 0) (fun _ _=>rfl))))),?_⟩
 refine ⟨_,rfl,_,rfl,a,c,t,r,rfl,S,hr1,B0,fun H1 l m1 hl hs=>?_⟩
 obtain ⟨ps,h1,h2,h3⟩:=id hs
 refine ⟨_,rfl,l,_,rfl,.inl (SqL.of h1),(boats c).length,by rw [List.length_map,h2,hsl],fun q1 hq1=>?_⟩
 have m2:=m1.new (o:=.rng 0 ((boats c).length:Int)) hq1
 refine ⟨q1,(boats c).length,.ref l,rfl,upd_same,by omega,m2.tb.two,rfl,fun H2 L=>?_⟩
 have m3:Sm T H H2:=m2.trans (Sm.lam2 m2.tb L)
 have k13:Kp H1 H2:=(Kp.of (Same.new hq1)).trans (Sm.lam2 m2.tb L).kp
 have hs2:=hs.keep k13
 refine ⟨fun k=>scoreC c r ((boats c).getD k []),fun k hk=>?_,fun q2 hq2=>?_⟩
 ·have hn:(boats c)[k]?=some (boats c)[k]:=List.getElem?_eq_getElem hk
  have hpk:ps[k]?=some (ps[k]'(by omega)):=List.getElem?_eq_getElem _
  have e:(boats c).getD k []=(boats c)[k]:=by rw [List.getD_eq_getElem?_getD,hn]; rfl
  dsimp only
  rw [e]
  exact ev_ixL (ev_var rfl) (ev_var rfl) (SqL.of (k13 _ _ h1 rfl)) (at_ix (j:=k) rfl (by rw [List.getElem?_map,hpk]; rfl)) _ ⟨rfl,_,rfl,(h3 k _ _ hpk (scores_get hn)).keep k13⟩
 ·rw [order_eq]
  exact q _ q2 (m3.new hq2) (m3.free hq2) upd_same
end
end Rv
end
section
namespace Rv
open PySem PySem.Spec PyProof.Rows L2
open RgScore (Bytes Name Line Series boats outs races ownOf penOf ascii thisRace stands wrongOf tooMany seriesText howMany)
theorem intsV_len (l:List Int):(intsV l).length=l.length:=by unfold intsV; rw [List.length_map]
theorem intsV_get {l:List Int} {i:Nat} {z:Int} (h:l[i]?=some z):(intsV l)[i]?=some (.int z):=by unfold intsV; rw [List.getElem?_map,h]; rfl
theorem natural_nat {z:Int} {b:Nat} (h:WqatczNeutral.natural z b=true):z=((WqatczNeutral.nat z:Nat):Int):=by
 unfold WqatczNeutral.natural at h
 rw [Bool.and_eq_true,decide_eq_true_eq] at h
 unfold WqatczNeutral.nat
 omega
theorem bytes_ints:∀ {t:List Int},t.all (fun (z:Int)=>WqatczNeutral.natural z 8)=true→intsV t=bytesV (WqatczNeutral.bytes t)
 | [],_=>rfl
 | z::t,h=>by
  rw [List.all_cons,Bool.and_eq_true] at h
  have ih:=bytes_ints h.2
  have h1:=h.1
  unfold WqatczNeutral.natural at h1
  rw [Bool.and_eq_true,decide_eq_true_eq,decide_eq_true_eq] at h1
  show V.int z::intsV t=V.int ((UInt8.ofNat z.toNat).toNat:Int)::bytesV (WqatczNeutral.bytes t)
  rw [ih]
  congr 2
  have:z.toNat < 256:=by omega
  rw [UInt8.toNat_ofNat']
  have e:z.toNat % 2 ^ 8=z.toNat:=Nat.mod_eq_of_lt (by omega)
  rw [e]
  omega
section
variable {P:Program} {w:World} {K:PySem.W.Frag} {mg:Str→Option Value} {base:Heap}
theorem Told.from {T:Tx P w K mg} {av:Addr→Prop} {d:Addr} {H H1:Hp} {Q:VK} {c:Series} {ans:List Int} (h:Told T av d H Q c ans) (s:Same H H1):Told T av d H1 Q c ans:=fun H' p k B D hp e=>h H' p (fun b o g hb t=>k b o (s _ _ g) hb t) B D (s.free hp) e
def spAnswer (T:Tx P w K mg):Sp:=fun vs H Q _=>∃ (av:Addr→Prop) (d cl:Addr) (c:Series) (q:List Int) (cc:List (List Int)),vs=[.ref d,.ref cl]∧DeskSt T av H d c∧Tabs T H∧H cl=some (.lst (intsV q))∧Rc.Req q cc∧WqatczNeutral.asked1 cc=true∧q.length≤70000∧(∀ b,H b=none→av b)∧Told T av d H Q (WqatczNeutral.step c cc).1 (WqatczNeutral.step c cc).2
theorem scAnswer:FnScope ["desk","call"] ["desk","call"] (defScope s_answer):=⟨rfl,rfl,rfl,by decide +kernel,rfl,by decide +kernel,by decide +kernel⟩
theorem ok_answer (T:Tx P w K mg) (BM:BMain mg base) (GO:FnOk P w K mg base CX0 10 T.boats_in_order.f T.boats_in_order.fd ["series","r"] (spOrder T)):FnOk P w K mg base CX0 12 T.answer.f T.answer.fd ["desk","call"] (spAnswer T):=by
 have G0:=ok_take (base:=base) T
 have G1:=ok_more (base:=base) T
 have G2:=ok_text (base:=base) T
 have G3:=ok_sizes (base:=base) T
 have G4:=ok_points (base:=base) T
 have G5:=ok_out T BM
 have G6:=ok_total T BM
 have G7:=ok_before T BM
 have G8:=ok_plc T BM
 have G9:=ok_ord T GO
 refine T.answer.fn.ok scAnswer (fun vs H Q E h=>?_) (fun cdv A outer s H vs Q E hr h=>?_)
 ·obtain ⟨av,d,cl,c,q,cc,rfl,_⟩:=h
  rfl
 obtain ⟨av,d,cl,c,q,cc,rfl,D,B,hcl,hq,ha,hsz,hav,ht⟩:=h
 refine ⟨_,pss_cons (ps_if (pt_cmpR op_eq (pe_ix ix_list (pv 1) pe_int (fun _ _=>rfl)) (pe_gi T.g_TAKE rfl) (nomark _)) (pss_one (ps_ret (pe_meth (pv 0) T.Desk.cl T.m_take.me G0 (hr.mono (by decide)) T.m_take.bd .nil pass0 (pa_cons (pe_slice sl_list (pv 1) (po_some pe_int) po_none) pa_nil)))) pss_nil)
  (pss_cons (ps_if (pt_cmpR op_eq (pe_ix ix_list (pv 1) pe_int (fun _ _=>rfl)) (pe_gi T.g_MORE rfl) (nomark _)) (pss_one (ps_ret (pe_meth (pv 0) T.Desk.cl T.m_more.me G1 (hr.mono (by decide)) T.m_more.bd .nil pass0 (pa_cons (pe_slice sl_list (pv 1) (po_some pe_int) po_none) pa_nil)))) pss_nil)
  (pss_cons (ps_if (pt_cmpR op_eq (pe_ix ix_list (pv 1) pe_int (fun _ _=>rfl)) (pe_gi T.g_TEXT rfl) (nomark _)) (pss_one (ps_ret (pe_meth0 (pv 0) T.Desk.cl T.m_text.me G2 (hr.mono (by decide)) T.m_text.bd .nil pass0))) pss_nil)
  (pss_cons (ps_if (pt_cmpR op_eq (pe_ix ix_list (pv 1) pe_int (fun _ _=>rfl)) (pe_gi T.g_SIZES rfl) (nomark _)) (pss_one (ps_ret (pe_meth0 (pv 0) T.Desk.cl T.m_sizes.me G3 (hr.mono (by decide)) T.m_sizes.bd .nil pass0))) pss_nil)
  (pss_cons (ps_if (pt_cmpR op_eq (pe_ix ix_list (pv 1) pe_int (fun _ _=>rfl)) (pe_gi T.g_POINTS rfl) (nomark _)) (pss_one (ps_ret (pe_meth (pv 0) T.Desk.cl T.m_points.me G4 (hr.mono (by decide)) T.m_points.bd .nil pass0 (pa_cons (pe_ix ix_list (pv 1) pe_int (fun _ _=>rfl)) (pa_cons (pe_ix ix_list (pv 1) pe_int (fun _ _=>rfl)) (pa_cons (pe_ix ix_list (pv 1) pe_int (fun _ _=>rfl)) pa_nil)))))) pss_nil)
  (pss_cons (ps_if (pt_cmpR op_eq (pe_ix ix_list (pv 1) pe_int (fun _ _=>rfl)) (pe_gi T.g_OUT rfl) (nomark _)) (pss_one (ps_ret (pe_meth (pv 0) T.Desk.cl T.m_out.me G5 (hr.mono (by decide)) T.m_out.bd .nil pass0 (pa_cons (pe_ix ix_list (pv 1) pe_int (fun _ _=>rfl)) (pa_cons (pe_ix ix_list (pv 1) pe_int (fun _ _=>rfl)) pa_nil))))) pss_nil)
  (pss_cons (ps_if (pt_cmpR op_eq (pe_ix ix_list (pv 1) pe_int (fun _ _=>rfl)) (pe_gi T.g_TOTAL rfl) (nomark _)) (pss_one (ps_ret (pe_meth (pv 0) T.Desk.cl T.m_total.me G6 (hr.mono (by decide)) T.m_total.bd .nil pass0 (pa_cons (pe_ix ix_list (pv 1) pe_int (fun _ _=>rfl)) (pa_cons (pe_ix ix_list (pv 1) pe_int (fun _ _=>rfl)) pa_nil))))) pss_nil)
  (pss_cons (ps_if (pt_cmpR op_eq (pe_ix ix_list (pv 1) pe_int (fun _ _=>rfl)) (pe_gi T.g_BEFORE rfl) (nomark _)) (pss_one (ps_ret (pe_meth (pv 0) T.Desk.cl T.m_before.me G7 (hr.mono (by decide)) T.m_before.bd .nil pass0 (pa_cons (pe_ix ix_list (pv 1) pe_int (fun _ _=>rfl)) (pa_cons (pe_ix ix_list (pv 1) pe_int (fun _ _=>rfl)) (pa_cons (pe_ix ix_list (pv 1) pe_int (fun _ _=>rfl)) pa_nil)))))) pss_nil)
  (pss_cons (ps_if (pt_cmpR op_eq (pe_ix ix_list (pv 1) pe_int (fun _ _=>rfl)) (pe_gi T.g_PLACE rfl) (nomark _)) (pss_one (ps_ret (pe_meth (pv 0) T.Desk.cl T.m_place.me G8 (hr.mono (by decide)) T.m_place.bd .nil pass0 (pa_cons (pe_ix ix_list (pv 1) pe_int (fun _ _=>rfl)) (pa_cons (pe_ix ix_list (pv 1) pe_int (fun _ _=>rfl)) pa_nil))))) pss_nil)
  (pss_one (ps_ret (pe_meth (pv 0) T.Desk.cl T.m_order.me G9 (hr.mono (by decide)) T.m_order.bd .nil pass0 (pa_cons (pe_ix ix_list (pv 1) pe_int (fun _ _=>rfl)) pa_nil)))))))))))),?_⟩
 have D0:=D
 obtain ⟨_,dx,a,_,hd,_⟩:=D
 have no:∀ (z y:Int),z≠y→∀ r,q=z::r→∀ {t u:TS} {E':Ends},u E' (L2.start ["desk","call"] [V.ref d,V.ref cl]) H→tIfS (tTest (tOp rEq (tOp (rIxL K) (tVar 1) (tC (.int 0))) (tC (.int y)))) t u E' (L2.start ["desk","call"] [V.ref d,V.ref cl]) H:=fun z y hn r e {t u E'} h=>by
  refine rd_if (b:=decide (V.int z=V.int y)) (evt_test (ev_eq (ev_ixL (ev_var rfl) ev_c (SqL.of hcl) (at_ix (j:=0) rfl (by rw [e]; rfl))) ev_c)) (fun h=>?_) fun _=>h
  have:=of_decide_eq_true h
  injection this with this
  exact absurd this hn
 have yes:∀ (z:Int) (r:List Int),q=z::r→∀ {t u:TS} {E':Ends},t E' (L2.start ["desk","call"] [V.ref d,V.ref cl]) H→tIfS (tTest (tOp rEq (tOp (rIxL K) (tVar 1) (tC (.int 0))) (tC (.int z)))) t u E' (L2.start ["desk","call"] [V.ref d,V.ref cl]) H:=fun z r e {t u E'} h=>by
  refine rd_if (b:=decide (V.int z=V.int z)) (evt_test (ev_eq (ev_ixL (ev_var rfl) ev_c (SqL.of hcl) (at_ix (j:=0) rfl (by rw [e]; rfl))) ev_c)) (fun _=>h) fun h=>?_
  rw [decide_eq_true rfl] at h
  cases h
 dsimp only [tSeq,tNext,gName]
 cases hq with
 | take t =>
  refine yes 0 _ rfl ?_
  refine ⟨_,rfl,d,dx,_,rfl,hd,desk_no (by decide),_,rfl,2,rfl,cl,_,rfl,SqL.of hcl,fun p hp=>?_⟩
  have e2:cutV (intsV (0::(t.length:Int)::t)) (some 2) none=bytesV (WqatczNeutral.bytes t):=(cut_from _ 2).trans (bytes_ints ha)
  rw [e2]
  have s1:Same H (upd H p (.lst (bytesV (WqatczNeutral.bytes t)))):=Same.new hp
  refine ⟨av,d,c,WqatczNeutral.bytes t,p,rfl,D0.keep (Kp.of s1),B.same s1,upd_same,?_,fun b e=>hav b (s1.free e),ht.from s1⟩
  unfold WqatczNeutral.bytes
  rw [List.length_map]
  simp at hsz
  omega
 | more t =>
  refine no 1 0 (by decide) _ rfl ?_
  refine yes 1 _ rfl ?_
  refine ⟨_,rfl,d,dx,_,rfl,hd,desk_no (by decide),_,rfl,2,rfl,cl,_,rfl,SqL.of hcl,fun p hp=>?_⟩
  have e2:cutV (intsV (1::(t.length:Int)::t)) (some 2) none=bytesV (WqatczNeutral.bytes t):=(cut_from _ 2).trans (bytes_ints ha)
  rw [e2]
  have s1:Same H (upd H p (.lst (bytesV (WqatczNeutral.bytes t)))):=Same.new hp
  refine ⟨av,d,c,WqatczNeutral.bytes t,p,rfl,D0.keep (Kp.of s1),B.same s1,upd_same,?_,fun b e=>hav b (s1.free e),ht.from s1⟩
  unfold WqatczNeutral.bytes
  rw [List.length_map]
  simp at hsz
  omega
 | text =>
  refine no 2 0 (by decide) _ rfl ?_
  refine no 2 1 (by decide) _ rfl ?_
  refine yes 2 _ rfl ?_
  exact ⟨_,rfl,d,dx,_,rfl,hd,desk_no (by decide),av,d,c,rfl,D0,B,ht⟩
 | sizes =>
  refine no 3 0 (by decide) _ rfl ?_
  refine no 3 1 (by decide) _ rfl ?_
  refine no 3 2 (by decide) _ rfl ?_
  refine yes 3 _ rfl ?_
  exact ⟨_,rfl,d,dx,_,rfl,hd,desk_no (by decide),av,d,c,rfl,D0,B,ht⟩
 | points r i k =>
  have ha:(WqatczNeutral.natural r 32 && WqatczNeutral.natural i 32 && WqatczNeutral.natural k 32)=true:=ha
  simp only [Bool.and_eq_true] at ha
  have e0:natV (WqatczNeutral.nat r)=V.int r:=congrArg V.int (natural_nat ha.1.1).symm
  have e1:natV (WqatczNeutral.nat i)=V.int i:=congrArg V.int (natural_nat ha.1.2).symm
  have e2:natV (WqatczNeutral.nat k)=V.int k:=congrArg V.int (natural_nat ha.2).symm
  refine no 4 0 (by decide) _ rfl ?_
  refine no 4 1 (by decide) _ rfl ?_
  refine no 4 2 (by decide) _ rfl ?_
  refine no 4 3 (by decide) _ rfl ?_
  refine yes 4 _ rfl ?_
  refine ⟨_,rfl,d,dx,_,rfl,hd,desk_no (by decide),?_⟩
  refine ⟨_,rfl,cl,_,_,_,rfl,rfl,SqL.of hcl,at_ix (j:=1) rfl rfl,?_⟩
  refine ⟨_,rfl,cl,_,_,_,rfl,rfl,SqL.of hcl,at_ix (j:=2) rfl rfl,?_⟩
  refine ⟨_,rfl,cl,_,_,_,rfl,rfl,SqL.of hcl,at_ix (j:=3) rfl rfl,?_⟩
  exact ⟨av,d,c,WqatczNeutral.nat r,WqatczNeutral.nat i,WqatczNeutral.nat k,by rw [e0,e1,e2]; rfl,D0,B,ht⟩
 | out r i =>
  have ha:(WqatczNeutral.natural r 32 && WqatczNeutral.natural i 32)=true:=ha
  simp only [Bool.and_eq_true] at ha
  have e0:natV (WqatczNeutral.nat r)=V.int r:=congrArg V.int (natural_nat ha.1).symm
  have e1:natV (WqatczNeutral.nat i)=V.int i:=congrArg V.int (natural_nat ha.2).symm
  refine no 5 0 (by decide) _ rfl ?_
  refine no 5 1 (by decide) _ rfl ?_
  refine no 5 2 (by decide) _ rfl ?_
  refine no 5 3 (by decide) _ rfl ?_
  refine no 5 4 (by decide) _ rfl ?_
  refine yes 5 _ rfl ?_
  refine ⟨_,rfl,d,dx,_,rfl,hd,desk_no (by decide),?_⟩
  refine ⟨_,rfl,cl,_,_,_,rfl,rfl,SqL.of hcl,at_ix (j:=1) rfl rfl,?_⟩
  refine ⟨_,rfl,cl,_,_,_,rfl,rfl,SqL.of hcl,at_ix (j:=2) rfl rfl,?_⟩
  exact ⟨av,d,c,WqatczNeutral.nat r,WqatczNeutral.nat i,by rw [e0,e1]; rfl,D0,B,ht⟩
 | total r i =>
  have ha:(WqatczNeutral.natural r 32 && WqatczNeutral.natural i 32)=true:=ha
  simp only [Bool.and_eq_true] at ha
  have e0:natV (WqatczNeutral.nat r)=V.int r:=congrArg V.int (natural_nat ha.1).symm
  have e1:natV (WqatczNeutral.nat i)=V.int i:=congrArg V.int (natural_nat ha.2).symm
  refine no 6 0 (by decide) _ rfl ?_
  refine no 6 1 (by decide) _ rfl ?_
  refine no 6 2 (by decide) _ rfl ?_
  refine no 6 3 (by decide) _ rfl ?_
  refine no 6 4 (by decide) _ rfl ?_
  refine no 6 5 (by decide) _ rfl ?_
  refine yes 6 _ rfl ?_
  refine ⟨_,rfl,d,dx,_,rfl,hd,desk_no (by decide),?_⟩
  refine ⟨_,rfl,cl,_,_,_,rfl,rfl,SqL.of hcl,at_ix (j:=1) rfl rfl,?_⟩
  refine ⟨_,rfl,cl,_,_,_,rfl,rfl,SqL.of hcl,at_ix (j:=2) rfl rfl,?_⟩
  exact ⟨av,d,c,WqatczNeutral.nat r,WqatczNeutral.nat i,by rw [e0,e1]; rfl,D0,B,ht⟩
 | before r i j =>
  have ha:(WqatczNeutral.natural r 32 && WqatczNeutral.natural i 32 && WqatczNeutral.natural j 32)=true:=ha
  simp only [Bool.and_eq_true] at ha
  have e0:natV (WqatczNeutral.nat r)=V.int r:=congrArg V.int (natural_nat ha.1.1).symm
  have e1:natV (WqatczNeutral.nat i)=V.int i:=congrArg V.int (natural_nat ha.1.2).symm
  have e2:natV (WqatczNeutral.nat j)=V.int j:=congrArg V.int (natural_nat ha.2).symm
  refine no 7 0 (by decide) _ rfl ?_
  refine no 7 1 (by decide) _ rfl ?_
  refine no 7 2 (by decide) _ rfl ?_
  refine no 7 3 (by decide) _ rfl ?_
  refine no 7 4 (by decide) _ rfl ?_
  refine no 7 5 (by decide) _ rfl ?_
  refine no 7 6 (by decide) _ rfl ?_
  refine yes 7 _ rfl ?_
  refine ⟨_,rfl,d,dx,_,rfl,hd,desk_no (by decide),?_⟩
  refine ⟨_,rfl,cl,_,_,_,rfl,rfl,SqL.of hcl,at_ix (j:=1) rfl rfl,?_⟩
  refine ⟨_,rfl,cl,_,_,_,rfl,rfl,SqL.of hcl,at_ix (j:=2) rfl rfl,?_⟩
  refine ⟨_,rfl,cl,_,_,_,rfl,rfl,SqL.of hcl,at_ix (j:=3) rfl rfl,?_⟩
  exact ⟨av,d,c,WqatczNeutral.nat r,WqatczNeutral.nat i,WqatczNeutral.nat j,by rw [e0,e1,e2]; rfl,D0,B,ht⟩
 | place r i =>
  have ha:(WqatczNeutral.natural r 32 && WqatczNeutral.natural i 32)=true:=ha
  simp only [Bool.and_eq_true] at ha
  have e0:natV (WqatczNeutral.nat r)=V.int r:=congrArg V.int (natural_nat ha.1).symm
  have e1:natV (WqatczNeutral.nat i)=V.int i:=congrArg V.int (natural_nat ha.2).symm
  refine no 8 0 (by decide) _ rfl ?_
  refine no 8 1 (by decide) _ rfl ?_
  refine no 8 2 (by decide) _ rfl ?_
  refine no 8 3 (by decide) _ rfl ?_
  refine no 8 4 (by decide) _ rfl ?_
  refine no 8 5 (by decide) _ rfl ?_
  refine no 8 6 (by decide) _ rfl ?_
  refine no 8 7 (by decide) _ rfl ?_
  refine yes 8 _ rfl ?_
  refine ⟨_,rfl,d,dx,_,rfl,hd,desk_no (by decide),?_⟩
  refine ⟨_,rfl,cl,_,_,_,rfl,rfl,SqL.of hcl,at_ix (j:=1) rfl rfl,?_⟩
  refine ⟨_,rfl,cl,_,_,_,rfl,rfl,SqL.of hcl,at_ix (j:=2) rfl rfl,?_⟩
  exact ⟨av,d,c,WqatczNeutral.nat r,WqatczNeutral.nat i,by rw [e0,e1]; rfl,D0,B,ht⟩
 | order r =>
  have e0:natV (WqatczNeutral.nat r)=V.int r:=congrArg V.int (natural_nat ha).symm
  refine no 9 0 (by decide) _ rfl ?_
  refine no 9 1 (by decide) _ rfl ?_
  refine no 9 2 (by decide) _ rfl ?_
  refine no 9 3 (by decide) _ rfl ?_
  refine no 9 4 (by decide) _ rfl ?_
  refine no 9 5 (by decide) _ rfl ?_
  refine no 9 6 (by decide) _ rfl ?_
  refine no 9 7 (by decide) _ rfl ?_
  refine no 9 8 (by decide) _ rfl ?_
  refine ⟨_,rfl,d,dx,_,rfl,hd,desk_no (by decide),?_⟩
  refine ⟨_,rfl,cl,_,_,_,rfl,rfl,SqL.of hcl,at_ix (j:=1) rfl rfl,?_⟩
  exact ⟨av,d,c,WqatczNeutral.nat r,by rw [e0]; rfl,D0,B,ht⟩
end
end Rv
end
section
namespace Rv
open PySem PySem.Spec PyProof.Rows L2
open RgScore (Bytes Name Line Series boats outs races ownOf penOf ascii thisRace stands wrongOf tooMany seriesText howMany)
theorem mid_get {pre q rest:List Int} {i:Nat} {z:Int} (h:q[i]?=some z):(intsV (pre++(q++rest)))[pre.length + i]?=some (.int z):=by
 refine intsV_get ?_
 rw [List.getElem?_append_right (by omega),Nat.add_sub_cancel_left]
 have:=(List.getElem?_eq_some_iff.mp h).1
 rw [List.getElem?_append_left this]
 exact h
section
variable {P:Program} {w:World} {K:PySem.W.Frag} {mg:Str→Option Value} {base:Heap}
def spEnd (K:PySem.W.Frag):Sp:=fun vs H Q _=>∃ (cl:Addr) (pre q rest:List Int) (cc:List (List Int)),vs=[.ref cl,natV pre.length]∧SqL K H cl (intsV (pre++(q++rest)))∧Rc.Req q cc∧∀ H',Same H H'→Q (natV (pre.length + q.length)) H'
theorem scEnd:FnScope ["calls","start"] ["calls","start"] (defScope s_call_end):=⟨rfl,rfl,rfl,by decide +kernel,rfl,by decide +kernel,by decide +kernel⟩
theorem ok_end (T:Tx P w K mg):FnOk P w K mg base CX0 1 T.call_end.f T.call_end.fd ["calls","start"] (spEnd K):=by
 refine T.call_end.fn.ok scEnd (fun vs H Q E h=>?_) (fun cdv A outer s H vs Q E hr h=>?_)
 ·obtain ⟨cl,pre,q,rest,cc,rfl,_⟩:=h
  rfl
 obtain ⟨cl,pre,q,rest,cc,rfl,hcl,hq,k⟩:=h
 refine ⟨_,pss_cons (ps_if (pt_cmpR op_in_seq (pe_ix ix_list (pv 0) (pv 1) (fun _ _=>rfl)) (pe_tup (pa_cons (pe_gi T.g_TAKE rfl) (pa_cons (pe_gi T.g_MORE rfl) pa_nil))) (by with_unfolding_all rfl))
   (pss_one (ps_ret (pe_op op_add (pe_op op_add (pv 1) pe_int) (pe_ix ix_list (pv 0) (pe_op op_add (pv 1) pe_int) (fun _ _=>rfl))))) pss_nil)
  (pss_one (ps_ret (pe_op op_add (pe_op op_add (pv 1) pe_int) (pe_kget T.counts (pe_gr T.g_COUNTS rfl) (pe_ix ix_list (pv 0) (pv 1) (fun _ _=>rfl)) (fun _ _=>rfl))))),?_⟩
 have at0:∀ {z:Int} {r:List Int},q=z::r→atI (intsV (pre++(q++rest))) (pre.length:Int)=some (.int z):=fun {z r} e=>at_ix (j:=pre.length) rfl (mid_get (i:=0) (by rw [e]; rfl))
 have big:∀ {z:Int} {r:List Int},q=z::r→∀ (p:Addr),H p=none→SqL K (upd H p (.tup [.int 0,.int 1])) cl (intsV (pre++(q++rest))):=fun {z r} e p hp=>(Same.new hp).seq hcl
 cases hq with
 | take t =>
  refine ⟨_,rfl,_,rfl,cl,_,_,_,rfl,rfl,hcl,at0 rfl,(by show 2≤sizeLine; decide),fun p hp=>⟨p,_,rfl,.inr (SqT.of upd_same),rfl,rfl,true,rfl,iteT ?_⟩⟩
  refine ⟨_,rfl,_,_,rfl,rfl,_,rfl,_,rfl,_,_,rfl,rfl,cl,_,_,_,rfl,rfl,big rfl p hp,at_ix (j:=pre.length + 1) rfl (mid_get (i:=1) rfl),_,_,rfl,rfl,?_⟩
  have:=k _ (Same.new (o:=.tup [.int 0,.int 1]) hp)
  have e:natV (pre.length + (0::(t.length:Int)::t).length)=V.int ((pre.length:Int) + 2 + (t.length:Int)):=by
   unfold natV
   congr 1
   simp only [List.length_cons]
   omega
  rw [e] at this
  exact this
 | more t =>
  refine ⟨_,rfl,_,rfl,cl,_,_,_,rfl,rfl,hcl,at0 rfl,(by show 2≤sizeLine; decide),fun p hp=>⟨p,_,rfl,.inr (SqT.of upd_same),rfl,rfl,true,rfl,iteT ?_⟩⟩
  refine ⟨_,rfl,_,_,rfl,rfl,_,rfl,_,rfl,_,_,rfl,rfl,cl,_,_,_,rfl,rfl,big rfl p hp,at_ix (j:=pre.length + 1) rfl (mid_get (i:=1) rfl),_,_,rfl,rfl,?_⟩
  have:=k _ (Same.new (o:=.tup [.int 0,.int 1]) hp)
  have e:natV (pre.length + (1::(t.length:Int)::t).length)=V.int ((pre.length:Int) + 2 + (t.length:Int)):=by
   unfold natV
   congr 1
   simp only [List.length_cons]
   omega
  rw [e] at this
  exact this
 | text  =>
  refine ⟨_,rfl,_,rfl,cl,_,_,_,rfl,rfl,hcl,at0 rfl,(by show 2≤sizeLine; decide),fun p hp=>⟨p,_,rfl,.inr (SqT.of upd_same),rfl,rfl,false,rfl,iteF ?_⟩⟩
  refine ⟨_,rfl,_,_,rfl,rfl,_,rfl,_,rfl,cl,_,_,_,rfl,rfl,big rfl p hp,at0 rfl,rfl,Sum.inl 2,.int 0,rfl,rfl,_,_,rfl,rfl,?_⟩
  have:=k _ (Same.new (o:=.tup [.int 0,.int 1]) hp)
  exact this
 | sizes  =>
  refine ⟨_,rfl,_,rfl,cl,_,_,_,rfl,rfl,hcl,at0 rfl,(by show 2≤sizeLine; decide),fun p hp=>⟨p,_,rfl,.inr (SqT.of upd_same),rfl,rfl,false,rfl,iteF ?_⟩⟩
  refine ⟨_,rfl,_,_,rfl,rfl,_,rfl,_,rfl,cl,_,_,_,rfl,rfl,big rfl p hp,at0 rfl,rfl,Sum.inl 3,.int 0,rfl,rfl,_,_,rfl,rfl,?_⟩
  have:=k _ (Same.new (o:=.tup [.int 0,.int 1]) hp)
  exact this
 | points r i j =>
  refine ⟨_,rfl,_,rfl,cl,_,_,_,rfl,rfl,hcl,at0 rfl,(by show 2≤sizeLine; decide),fun p hp=>⟨p,_,rfl,.inr (SqT.of upd_same),rfl,rfl,false,rfl,iteF ?_⟩⟩
  refine ⟨_,rfl,_,_,rfl,rfl,_,rfl,_,rfl,cl,_,_,_,rfl,rfl,big rfl p hp,at0 rfl,rfl,Sum.inl 4,.int 3,rfl,rfl,_,_,rfl,rfl,?_⟩
  have:=k _ (Same.new (o:=.tup [.int 0,.int 1]) hp)
  exact this
 | out r i =>
  refine ⟨_,rfl,_,rfl,cl,_,_,_,rfl,rfl,hcl,at0 rfl,(by show 2≤sizeLine; decide),fun p hp=>⟨p,_,rfl,.inr (SqT.of upd_same),rfl,rfl,false,rfl,iteF ?_⟩⟩
  refine ⟨_,rfl,_,_,rfl,rfl,_,rfl,_,rfl,cl,_,_,_,rfl,rfl,big rfl p hp,at0 rfl,rfl,Sum.inl 5,.int 2,rfl,rfl,_,_,rfl,rfl,?_⟩
  have:=k _ (Same.new (o:=.tup [.int 0,.int 1]) hp)
  exact this
 | total r i =>
  refine ⟨_,rfl,_,rfl,cl,_,_,_,rfl,rfl,hcl,at0 rfl,(by show 2≤sizeLine; decide),fun p hp=>⟨p,_,rfl,.inr (SqT.of upd_same),rfl,rfl,false,rfl,iteF ?_⟩⟩
  refine ⟨_,rfl,_,_,rfl,rfl,_,rfl,_,rfl,cl,_,_,_,rfl,rfl,big rfl p hp,at0 rfl,rfl,Sum.inl 6,.int 2,rfl,rfl,_,_,rfl,rfl,?_⟩
  have:=k _ (Same.new (o:=.tup [.int 0,.int 1]) hp)
  exact this
 | before r i j =>
  refine ⟨_,rfl,_,rfl,cl,_,_,_,rfl,rfl,hcl,at0 rfl,(by show 2≤sizeLine; decide),fun p hp=>⟨p,_,rfl,.inr (SqT.of upd_same),rfl,rfl,false,rfl,iteF ?_⟩⟩
  refine ⟨_,rfl,_,_,rfl,rfl,_,rfl,_,rfl,cl,_,_,_,rfl,rfl,big rfl p hp,at0 rfl,rfl,Sum.inl 7,.int 3,rfl,rfl,_,_,rfl,rfl,?_⟩
  have:=k _ (Same.new (o:=.tup [.int 0,.int 1]) hp)
  exact this
 | place r i =>
  refine ⟨_,rfl,_,rfl,cl,_,_,_,rfl,rfl,hcl,at0 rfl,(by show 2≤sizeLine; decide),fun p hp=>⟨p,_,rfl,.inr (SqT.of upd_same),rfl,rfl,false,rfl,iteF ?_⟩⟩
  refine ⟨_,rfl,_,_,rfl,rfl,_,rfl,_,rfl,cl,_,_,_,rfl,rfl,big rfl p hp,at0 rfl,rfl,Sum.inl 8,.int 2,rfl,rfl,_,_,rfl,rfl,?_⟩
  have:=k _ (Same.new (o:=.tup [.int 0,.int 1]) hp)
  exact this
 | order r =>
  refine ⟨_,rfl,_,rfl,cl,_,_,_,rfl,rfl,hcl,at0 rfl,(by show 2≤sizeLine; decide),fun p hp=>⟨p,_,rfl,.inr (SqT.of upd_same),rfl,rfl,false,rfl,iteF ?_⟩⟩
  refine ⟨_,rfl,_,_,rfl,rfl,_,rfl,_,rfl,cl,_,_,_,rfl,rfl,big rfl p hp,at0 rfl,rfl,Sum.inl 9,.int 1,rfl,rfl,_,_,rfl,rfl,?_⟩
  have:=k _ (Same.new (o:=.tup [.int 0,.int 1]) hp)
  exact this
end
end Rv
end
section
namespace Rv
open PySem PySem.Spec PyProof.Rows L2
open RgScore (Bytes Name Line Series boats outs races ownOf penOf ascii thisRace stands wrongOf tooMany seriesText howMany)
theorem cut_mid (pre q rest:List Int):cutV (intsV (pre++(q++rest))) (some (pre.length:Int)) (some ((pre.length + q.length:Nat):Int))=intsV q:=by
 unfold cutV HT.sIx
 dsimp only
 rw [if_neg (by omega),if_neg (by omega),Int.toNat_natCast,Int.toNat_natCast,intsV_len,List.length_append,List.length_append,Nat.min_eq_left (by omega),Nat.min_eq_left (by omega),Nat.add_sub_cancel_left]
 unfold intsV
 rw [List.map_append,List.map_append,List.drop_append_of_le_length (by rw [List.length_map]; exact Nat.le_refl _),List.drop_of_length_le (by rw [List.length_map]; exact Nat.le_refl _),List.nil_append,List.take_append_of_le_length (by rw [List.length_map]; exact Nat.le_refl _),List.take_of_length_le (by rw [List.length_map]; exact Nat.le_refl _)]
theorem SerAt.offLst {cR cS:Addr} {H:Hp} {a:SerAd} {c:Series} {t:Bytes} {q:Addr} {xs:List V} {o:HO} (S:SerAt cR cS H a c t) (hq:H q=some (.lst xs)) (hav:∀ b,a.av b→b≠q):SerAt cR cS (upd H q o) a c t:=by
 obtain ⟨g,⟨dx,h1⟩,h2,⟨kb,h3,h4,h5⟩,⟨h6,h7,h8⟩,⟨h9,h10,h11⟩,h12,h13,h14,h15⟩:=S
 have ni:∀ {b C d:Addr} {fs:List (Str×V)},H b=some (.ins C d fs)→b≠q:=fun e=>ne_of e hq (by intro z; cases z)
 have nt:∀ {b:Addr} {xs:List V},H b=some (.tup xs)→b≠q:=fun e=>ne_of e hq (by intro z; cases z)
 have nk:∀ {b:Addr} {xs:List (Key×V)},H b=some (.dK xs)→b≠q:=fun e=>ne_of e hq (by intro z; cases z)
 refine ⟨g,⟨dx,by rw [upd_ne (ni h1)]; exact h1⟩,by rw [upd_ne (hav _ h15.1)]; exact h2,⟨kb,by rw [upd_ne (nk h3)]; exact h3,h4,h5⟩,⟨by rw [upd_ne (hav _ h15.2.1)]; exact h6,h7,fun i o p e1 e2=>by rw [upd_ne (nt (h8 i o p e1 e2))]; exact h8 i o p e1 e2⟩,⟨by rw [upd_ne (hav _ h15.2.2)]; exact h9,h10,fun k x ls e1 e2=>?_⟩,h12,h13,h14,h15⟩
 have R:=h11 k x ls e1 e2
 obtain ⟨⟨dz,z1⟩,⟨k1,z2,_⟩,⟨k2,z3,_⟩,_⟩:=id R
 exact R.upd (ni z1) (nk z2) (nk z3) (fun t xs e=>nt e) fun na xs e _=>hav _ e.2.2.2
theorem Kp.seq {K:PySem.W.Frag} {H H':Hp} {a:Addr} {xs:List V} (k:Kp H H') (h:SqL K H a xs):SqL K H' a xs:=by
 rcases h with (h | ⟨o,h⟩) | h
 ·exact .inl (.inl (k _ _ h rfl))
 ·exact .inl (.inr ⟨o,k _ _ h rfl⟩)
 ·exact .inr h
theorem SerAt.reav {cR cS:Addr} {H:Hp} {a:SerAd} {c:Series} {t:Bytes} (S:SerAt cR cS H a c t) (av:Addr→Prop) (h:∀ b xs,H b=some (.lst xs)→av b):SerAt cR cS H { a with av:=av } c t:=by
 obtain ⟨g,h1,h2,h3,h6,⟨h9,h10,h11⟩,h12,h13,h14,h15⟩:=S
 exact ⟨g,h1,h2,h3,h6,⟨h9,h10,fun k x ls e1 e2=>(h11 k x ls e1 e2).ok fun na xs e z=>⟨e.1,e.2.1,e.2.2.1,h na xs z⟩⟩,h12,h13,h14,⟨h _ _ h2,h _ _ h6.1,h _ _ h9⟩⟩
theorem req_pos {q:List Int} {cc:List (List Int)} (h:Rc.Req q cc):1≤q.length:=by cases h <;> simp
section
variable {P:Program} {w:World} {K:PySem.W.Frag} {mg:Str→Option Value} {base:Heap}
def spAnswers (T:Tx P w K mg):Sp:=fun vs H Q _=>∃ (a:Addr) (l:List Int),vs=[.ref a]∧SqL K H a (intsV l)∧PyWqatcz.answers_asked l=true∧l.length≤70000∧Tabs T H∧∀ (H':Hp) (p:Addr),Kp H H'→Tabs T H'→H p=none→H' p=some (.lst (intsV (PyWqatcz.answers l)))→Q (.ref p) H'
theorem scAnswers:FnScope ["calls","desk","told","start","end","numbers"] ["calls"] (defScope s_answers):=⟨rfl,rfl,rfl,by decide +kernel,rfl,by decide +kernel,by decide +kernel⟩
theorem ok_answers (T:Tx P w K mg) (BM:BMain mg base) (GO:FnOk P w K mg base CX0 10 T.boats_in_order.f T.boats_in_order.fd ["series","r"] (spOrder T)):FnOk P w K mg base CX0 13 T.answers.f T.answers.fd ["calls"] (spAnswers T):=by
 have nd:=scAnswers.nd
 have GD:=ok_desk_init (base:=base) T
 have GE:=ok_end (base:=base) T
 have GA:=ok_answer T BM GO
 refine T.answers.fn.ok scAnswers (fun vs H Q E h=>?_) (fun cdv A outer s H vs Q E hr h=>?_)
 ·obtain ⟨a,l,rfl,_⟩:=h
  rfl
 obtain ⟨a,l,rfl,hSq,hask,hlen,B0,q⟩:=h
 obtain ⟨cs,hL,hans,hall,hbig⟩:=Rc.asked_left hask
 refine ⟨_,pss_cons (ps_set (i:=1) nd rfl (Or.inl rfl) (pe_make0 T.Desk.mkx GD (hr.mono (by decide)) rfl T.Desk.gl T.Desk.bd .nil pass0))
  (pss_cons (ps_set (i:=2) nd rfl (Or.inl rfl) (pe_lst pa_nil))
  (pss_cons (ps_set (i:=3) nd rfl (Or.inl rfl) pe_int)
  (pss_cons (ps_while PassesOwn.never (pt_cmpR op_lt (pv 3) (pe_callB call_len_seq (by rfl) T.n_len PySem.boot_len (pa_cons (pv 0) pa_nil)) (nomark _))
   (pss_cons (ps_set (i:=4) nd rfl (Or.inl rfl) (pe_call GE (hr.mono (by decide)) rfl T.call_end.gl T.call_end.fn.kp T.call_end.bd .nil pass0 (pa_cons (pv 0) (pa_cons (pv 3) pa_nil))))
   (pss_cons (ps_set (i:=5) nd rfl (Or.inl rfl) (pe_call GA (hr.mono (by decide)) rfl T.answer.gl T.answer.fn.kp T.answer.bd .nil pass0 (pa_cons (pv 1) (pa_cons (pe_slice sl_list (pv 0) (po_some (pv 3)) (po_some (pv 4))) pa_nil))))
   (pss_cons (ps_expr (pe_bm PySem.F.plainAttrs_list PySem.F.slot_list_append PySem.F.type_list_append mt_append (pv 2) (pa_cons (pe_callB call_len_seq (by rfl) T.n_len PySem.boot_len (pa_cons (pv 5) pa_nil)) pa_nil)))
   (pss_cons (ps_expr (pe_bm PySem.F.plainAttrs_list PySem.F.slot_list_extend PySem.F.type_list_extend mt_extend (pv 2) (pa_cons (pv 5) pa_nil)))
   (pss_one (ps_set (i:=3) nd rfl (Or.inl rfl) (pv 4))))))))
  (pss_one (ps_ret (pv 2)))))),?_⟩
 intro d dx hd hdx hne
 refine ⟨fun _=>True,d,dx,rfl,upd_same,fun _ _=>trivial,fun H1 kb D1=>⟨rfl,?_⟩⟩
 have s1:Same H H1:=Same.made hd hdx kb
 refine ⟨Nat.zero_le _,fun tl htl=>?_⟩
 have htl0:H tl=none:=s1.free htl
 have s2:Same H1 (upd H1 tl (.lst [])):=Same.new htl
 have D2:DeskSt T (fun b=>b≠tl) (upd H1 tl (.lst [])) d []:=by
  obtain ⟨z0,zx,za,_,z1,z2⟩:=D1
  exact ⟨z0,zx,{ za with av:=fun b=>b≠tl },rfl,s2 _ _ z1,(z2.reav (fun b=>b≠tl) fun b xs e=>ne_of_none e htl).keep (Kp.of s2)⟩
 refine while_by (fun σ H'=>∃ (pre rest:List Int) (csr:List (List (List Int))) (st:Series) (acc:List Int) (v4 v5:Option V),σ=[some (.ref a),some (.ref d),some (.ref tl),some (natV pre.length),v4,v5]∧l=pre++rest∧Rc.Left rest csr∧csr.all WqatczNeutral.asked1=true∧Kp H H'∧Tabs T H' ∧
   DeskSt T (fun b=>b≠tl) H' d st∧H' tl=some (.lst (intsV acc))∧PyWqatcz.answers l=acc++PyFlat.told (PyFlat.played WqatczNeutral.step st csr)) (fun σ _=>l.length - slotN σ 3)
  ⟨[],l,cs,[],[],none,none,rfl,rfl,hL,hall,Kp.of (s1.trans s2),B0.same (s1.trans s2),D2,upd_same,hans⟩ ?_ ?_
 ·rintro σ H' ⟨pre,rest,csr,st,acc,v4,v5,rfl,hl,hLr,hal,kp,B,D,htl',hacc⟩
  have hSq':=kp.seq hSq
  refine (evt_test (ev_lt (i:=(pre.length:Nat)) (ev_var rfl) (ev_lenL (K:=K) (ev_var rfl) hSq')):EvT _ _ _ _) _ ?_
  rw [intsV_len,dec_lt]
  cases hLr with
  | nil =>
   rw [List.append_nil] at hl
   rw [decide_eq_false (by rw [hl]; omega)]
   refine iteF ⟨_,rfl,?_⟩
   refine q H' tl kp B htl0 ?_
   have e:PyWqatcz.answers l=acc:=by
    rw [hacc]
    show acc++[]=acc
    rw [List.append_nil]
   rw [e]
   exact htl'
  | @cons qq l2 cc cs2 hreq hrest =>
   have hq1:=req_pos hreq
   have hll:l.length=pre.length + (qq.length + l2.length):=by rw [hl,List.length_append,List.length_append]
   rw [decide_eq_true (by omega)]
   rw [List.all_cons,Bool.and_eq_true] at hal
   rw [hl] at hSq'
   rw [Rc.told_played] at hacc
   have hbig2:acc.length + ((WqatczNeutral.step st cc).2.length + 1)≤10000000:=by
    rw [hacc,List.length_append,List.length_append,List.length_cons] at hbig
    omega
   refine iteT ⟨_,rfl,_,rfl,a,pre,qq,l2,cc,rfl,hSq',hreq,fun H3 s3=>?_⟩
   refine ⟨_,rfl,_,rfl,_,rfl,(pre.length:Int),rfl,_,rfl,((pre.length + qq.length:Nat):Int),rfl,a,_,rfl,s3.seq hSq',fun p hp=>?_⟩
   rw [cut_mid]
   have s4:Same H' (upd H3 p (.lst (intsV qq))):=s3.put (s3.free hp)
   have htl4:=s4 _ _ htl'
   refine ⟨fun b=>b≠tl,d,p,st,qq,cc,rfl,D.keep (Kp.of s4),B.same s4,upd_same,hreq,hal.1,by omega,fun b e=>(ne_of_none htl4 e).symm,fun H5 pn kd B5 D5 hpn h5=>?_⟩
   have htd:tl≠d:=by
    obtain ⟨_,_,_,_,z1,_⟩:=D
    exact ne_of htl' z1 (by intro z; cases z)
   have htl5:H5 tl=some (.lst (intsV acc)):=kd tl _ htl4 htd rfl
   have hpnt:pn≠tl:=(ne_of_none htl4 hpn).symm
   refine ⟨_,rfl,.inl ⟨rfl,_,SqL.of htl5⟩,_,rfl,pn,_,rfl,.inl (SqL.of h5),tl,_,_,rfl,rfl,htl5,by rw [intsV_len]; exact line10' (by omega),?_⟩
   refine ⟨_,rfl,.inl ⟨rfl,_,SqL.of upd_same⟩,_,rfl,tl,pn,_,_,rfl,rfl,upd_same,by rw [upd_ne hpnt]; exact h5,?_,?_⟩
   ·rw [List.length_append,intsV_len,intsV_len]
    show acc.length + 1 + _≤sizeLine
    exact line10 (by omega)
   rw [upd_upd]
   refine ⟨_,rfl,⟨pre++qq,l2,cs2,(WqatczNeutral.step st cc).1,acc++(((WqatczNeutral.step st cc).2.length:Int)::(WqatczNeutral.step st cc).2),some (natV (pre.length + qq.length)),some (.ref pn),?_,?_,hrest,hal.2,?_,⟨TabOk.put B5.one (.inr ⟨_,htl5⟩),TabOk.put B5.two (.inr ⟨_,htl5⟩)⟩,?_,?_,?_⟩,?_⟩
   ·rw [List.length_append]
    rfl
   ·rw [hl,List.append_assoc]
   ·intro b o e t
    have e4:=s4 _ _ (kp b o e t)
    have n1:b≠d:=ne_of_none e hd
    have n2:b≠tl:=ne_of_none e htl0
    rw [upd_ne n2]
    exact kd b o e4 n1 t
   ·obtain ⟨z0,zx,za,zav,z1,z2⟩:=D5
    exact ⟨z0,zx,za,zav,by rw [upd_ne (Ne.symm htd)]; exact z1,z2.offLst htl5 fun b hb=>by rw [zav] at hb; exact hb⟩
   ·rw [upd_same,intsV_len]
    unfold intsV
    rw [List.map_append,List.map_cons,List.append_assoc]
    rfl
   ·rw [hacc,List.append_assoc]
   ·show l.length - ((pre.length + qq.length:Nat):Int).toNat < l.length - ((pre.length:Nat):Int).toNat
    rw [Int.toNat_natCast,Int.toNat_natCast]
    omega
 ·rintro σ H' Q1 Q2 hq ⟨v,e,v',e',p,ys,ep,hs,i,j,e1,e2,k,ek,z⟩
  exact ⟨v,e,v',e',p,ys,ep,hs,i,j,e1,e2,k,ek,hq _ _ z⟩
end
end Rv
end
section
namespace Rv
open PySem PySem.Spec PyProof.Rows L2
open PySem.W (WData Codec OpenSpec Well WellAll ReadsW ReadsAllW)
open PySem.W (tabObj)
def withT (t1 t2:Addr) (H:Hp):Hp:=fun b=>if b=t1∨b=t2 then some (.tbl #[]) else H b
theorem withT_1 {t1 t2:Addr} {H:Hp}:withT t1 t2 H t1=some (.tbl #[]):=by unfold withT; rw [if_pos (.inl rfl)]
theorem withT_2 {t1 t2:Addr} {H:Hp}:withT t1 t2 H t2=some (.tbl #[]):=by unfold withT; rw [if_pos (.inr rfl)]
theorem withT_ne {t1 t2 b:Addr} {H:Hp} (h1:b≠t1) (h2:b≠t2):withT t1 t2 H b=H b:=by unfold withT; rw [if_neg (fun z=>z.elim h1 h2)]
mutual
theorem dw_same {K:PySem.W.Frag} {H H':Hp} (hl:∀ a xs,SqL K H a xs→SqL K H' a xs) (ht:∀ a xs,SqT K H a xs→SqT K H' a xs):∀ {v:V} {d:WData},Dw K H v d→Dw K H' v d
 | _,_,.non=>.non
 | _,_,.bl b=>.bl b
 | _,_,.int i=>.int i
 | _,_,.str s=>.str s
 | _,_,.byt b=>.byt b
 | _,_,.lst h hs=>.lst (hl _ _ h) (dwAll_same hl ht hs)
 | _,_,.tup h hs=>.tup (ht _ _ h) (dwAll_same hl ht hs)
theorem dwAll_same {K:PySem.W.Frag} {H H':Hp} (hl:∀ a xs,SqL K H a xs→SqL K H' a xs) (ht:∀ a xs,SqT K H a xs→SqT K H' a xs):∀ {vs:List V} {ds:List WData},DwAll K H vs ds→DwAll K H' vs ds
 | _,_,.nil=>.nil
 | _,_,.cons h hs=>.cons (dw_same hl ht h) (dwAll_same hl ht hs)
end
theorem spec_callT {P:Program} {w:World} {K:PySem.W.Frag} {mg mb:Str→Option Value} {CX:CXT} {k:Nat} {fa:Addr} {fd:FuncData} {ps:List Str} {sp:Sp} {s₁:Shared} {vals:List Value} {ds:List WData} {R:PySem.W.WRecords} {cl:Str→Option Addr} {d0:WData} {t1 t2:Addr}
  (KX:K.In s₁.heap) (hns:s₁.heap.Ns mainGlobals mg) (hb:s₁.heap.Ns builtinsNs mb) (hbb:∀ x:Str,x≠"__name__"→mb x=bootBuiltins x) (hlim:s₁.heap.NoLimit) (hg:s₁.gens=#[])
  (hT1:s₁.heap.get? t1=some (tabObj #[])) (hT2:s₁.heap.get? t2=some (tabObj #[])) (hI1:isCodeTable s₁.heap t1) (hI2:isCodeTable s₁.heap t2) (hK1:K.lookup t1=none) (hK2:K.lookup t2=none) (BM:BMain mg s₁.heap)
  (hwl:WellAll w.params s₁.heap vals ds) (hpl:plWs ds=true) (hwt:∀ d∈ds,d.weight≤1048576) (hr:Room k callerA)
  (F:∀ base:Heap,K.In base→base.Ns mainGlobals mg→BMain mg base→FnOk P w K mg base CX k fa fd ps sp) (hbind:∀ (s:Shared) (us:List Value),us.length=ps.length→BindsTo s fd ⟨us,[]⟩ (ps.zip us)) (hlen:ds.length=ps.length)
  (hsp:∀ (H:Hp) (xs:List V),H t1=some (.tbl #[])→H t2=some (.tbl #[])→DwAll K H xs ds→sp xs H (fun v H'=>Dw K H' v d0) fun _ _ _=>False)
  (hCX:∀ H e s',CX [] H s₁ (fun _ _ _=>False) e s'→False) :
  codeAny (model P w) callerA (.call (.ref fa) ⟨vals,[]⟩) (fun r s'=>∃ u as,r=.ok (.ret u)∧ReadsW R cl s'.heap u d0 as∧OldK s₁.heap s'.heap∧s'.os=s₁.os∧AllBare s'.gens) s₁:=by
 obtain ⟨A,ho,ar⟩:=area_all ds vals hwl hpl hwt
 have hO0:OnlyF (argH K s₁.heap A):=argH_only ar
 have hok0:HOk P w (argH K s₁.heap A) s₁.heap:=argH_ok ar
 have hS0:=dw_all KX ar ds vals hwl hpl ho
 have hV:=vals_toV ho
 have nt:∀ {t:Addr},s₁.heap.get? t=some (tabObj #[])→argH K s₁.heap A t=none:=fun {t} e=>by
  cases q:argH K s₁.heap A t with
  | none=>rfl
  | some u =>
   obtain ⟨_,vs,_,_,⟨e2,_⟩ | ⟨e2,_⟩⟩:=argH_is ar q
   ·rw [e2] at e; cases e
   ·rw [e2] at e; cases e
 have n1:=nt hT1
 have n2:=nt hT2
 have up:∀ b u,argH K s₁.heap A b=some u→withT t1 t2 (argH K s₁.heap A) b=some u:=fun b u e=>by
  rw [withT_ne (fun z=>by rw [z,n1] at e; cases e) (fun z=>by rw [z,n2] at e; cases e)]
  exact e
 have hS:DwAll K (withT t1 t2 (argH K s₁.heap A)) (vals.map toV) ds:=dwAll_same (fun a xs h=>by
   rcases h with (h | ⟨o,h⟩) | h
   ·exact .inl (.inl (up _ _ h))
   ·exact .inl (.inr ⟨o,up _ _ h⟩)
   ·exact .inr h) (fun a xs h=>by
   rcases h with (h | ⟨o,h⟩) | h
   ·exact .inl (.inl (up _ _ h))
   ·exact .inl (.inr ⟨o,up _ _ h⟩)
   ·exact .inr h) hS0
 have hcase:∀ b u,withT t1 t2 (argH K s₁.heap A) b=some u→(b=t1∨b=t2)∧u=.tbl #[]∨argH K s₁.heap A b=some u:=fun b u e=>by
  by_cases h1:b=t1
  ·rw [h1,withT_1] at e
   exact .inl ⟨.inl h1,(Option.some.inj e).symm⟩
  ·by_cases h2:b=t2
   ·rw [h2,withT_2] at e
    exact .inl ⟨.inr h2,(Option.some.inj e).symm⟩
   ·rw [withT_ne h1 h2] at e
    exact .inr e
 have hok:HOk P w (withT t1 t2 (argH K s₁.heap A)) s₁.heap:=fun b u e=>by
  rcases hcase b u e with ⟨h | h,rfl⟩ | h
  ·rw [h]; exact hT1
  ·rw [h]; exact hT2
  ·refine (hok0 b u h).stay (fun _ _ _ q=>q) (fun d q=>?_) fun d xs q=>?_
   ·rcases hO0 d with z | ⟨_,_,z⟩ <;> (rw [q] at z; cases z)
   ·rcases hO0 d with z | ⟨_,_,z⟩ <;> (rw [q] at z; cases z)
 have hK:∀ b u,withT t1 t2 (argH K s₁.heap A) b=some u→K.lookup b=none:=fun b u q=>by
  rcases hcase b u q with ⟨h | h,_⟩ | h
  ·rw [h]; exact hK1
  ·rw [h]; exact hK2
  ·exact (argH_is ar h).1
 have noA:∀ {b:Addr} {o:Obj} {es:Array DictEntry} {ep:Nat},s₁.heap.get? b=some o→o.data=.dict es ep→withT t1 t2 (argH K s₁.heap A) b=none:=fun {b o es ep} e d=>by
  cases q:withT t1 t2 (argH K s₁.heap A) b with
  | none=>rfl
  | some u =>
   rcases hcase b u q with ⟨h | h,_⟩ | h
   ·rw [h,hT1] at e; cases e; cases d
   ·rw [h,hT2] at e; cases e; cases d
   ·obtain ⟨_,vs,_,_,⟨e2,_⟩ | ⟨e2,_⟩⟩:=argH_is ar h
    ·rw [e2] at e
     cases e
     have d':Data.seq vs.toArray _=Data.dict es ep:=d
     cases d'
    ·rw [e2] at e
     cases e
     have d':Data.seq vs.toArray _=Data.dict es ep:=d
     cases d'
 have noP:∀ {b:Addr} {o:Obj},s₁.heap.get? b=some o→o.data=.plain→withT t1 t2 (argH K s₁.heap A) b=none:=fun {b o} e d=>by
  cases q:withT t1 t2 (argH K s₁.heap A) b with
  | none=>rfl
  | some u =>
   rcases hcase b u q with ⟨h | h,_⟩ | h
   ·rw [h,hT1] at e; cases e; cases d
   ·rw [h,hT2] at e; cases e; cases d
   ·obtain ⟨_,vs,_,_,⟨e2,_⟩ | ⟨e2,_⟩⟩:=argH_is ar h
    ·rw [e2] at e
     cases e
     have d':Data.seq vs.toArray _=Data.plain:=d
     cases d'
    ·rw [e2] at e
     cases e
     have d':Data.seq vs.toArray _=Data.plain:=d
     cases d'
 have hH1:withT t1 t2 (argH K s₁.heap A) t1=some (.tbl #[]):=withT_1
 have hH2:withT t1 t2 (argH K s₁.heap A) t2=some (.tbl #[]):=withT_2
 have hO:∀ b,withT t1 t2 (argH K s₁.heap A) b=none∨(b=t1∨b=t2)∨∃ o u,withT t1 t2 (argH K s₁.heap A) b=some (.frz o u):=fun b=>by
  by_cases h1:b=t1
  ·exact .inr (.inl (.inl h1))
  ·by_cases h2:b=t2
   ·exact .inr (.inl (.inr h2))
   ·rw [withT_ne h1 h2]
    rcases hO0 b with z | z
    ·exact .inl z
    ·exact .inr (.inr z)
 generalize withT t1 t2 (argH K s₁.heap A)=H at hO hok hS hK noA noP hH1 hH2
 have base_of:∀ {b:Addr} {o:Obj},s₁.heap.get? b=some o→H b=none→(hidT s₁.heap H).get? b=some o:=fun e n=>hidT_get e n
 have nsK:∀ {b:Addr} {m:Str→Option Value},s₁.heap.Ns b m→(hidT s₁.heap H).Ns b m:=fun {b m} ⟨o,es,ep,e,d,r⟩=>⟨o,es,ep,base_of e (noA e d),d,r⟩
 have nK:∀ b o,K.lookup b=some o→H b=none:=fun b o e=>by
  cases q:H b with
  | none=>rfl
  | some u =>
   rw [hK b u q] at e
   cases e
 have hKb:K.In (hidT s₁.heap H):=fun b o e=>base_of (KX b o e) (nK b o e)
 have hM:Mod K mg (hidT s₁.heap H):=⟨hKb,nsK hns,⟨mb,nsK hb,hbb⟩,let ⟨mc,h1,h2⟩:=hlim; ⟨mc,nsK h1,h2⟩⟩
 have e0:Env0 P w K mg (hidT s₁.heap H) callerA [] s₁ H:=⟨rfl,hM,fun b o e=>of_hidT e,Nat.le_of_eq (hidT_size _ _),trivial,fun b hb=>absurd (show b∈([]:List Addr) from hb) (by simp),hok,.of_eq hg⟩
 have hl:vals.length=ps.length:=by rw [wellAll_len hwl]; exact hlen
 have BM':BMain mg (hidT s₁.heap H):=by
  obtain ⟨bm,ob,b1,b2,b3,b4,b5,b6,b7⟩:=BM
  exact ⟨bm,ob,b1,b2,b3,base_of b4 (noP b4 b7),b5,b6,b7⟩
 refine codeAny_mono ((F _ hKb (nsK hns) BM').run callerA [] s₁ H ⟨vals,[]⟩ vals (vals.map toV) _ _ hr e0 (hbind s₁ vals hl) hV (hsp H _ hH1 hH2 hS)) fun r s' x=>?_
 cases r with
 | error e=>exact (hCX H e s' x).elim
 | ok fl =>
  cases fl with
  | next=>exact False.elim x
  | brk=>exact False.elim x
  | cont=>exact False.elim x
  | ret u =>
   obtain ⟨v,H',os,bare,un,hok',r',q⟩:=x
   have grown:∀ t,H t=some (.tbl #[])→∃ ps,s'.heap.get? t=some (tabObj ps):=fun t e=>by
    obtain ⟨more,e2⟩:=un.tbls t _ e
    exact ⟨_,hok' t _ e2⟩
   have kept:∀ b o,b≠t1→b≠t2→s₁.heap.get? b=some o→s'.heap.get? b=some o:=fun b o m1 m2 e=>by
    rcases hO b with z | (z | z) | ⟨ob,u3,z⟩
    ·exact un.keep b o e z (by intro z; exact absurd (show b∈([]:List Addr) from z) (by simp)) (by simp)
    ·exact absurd z m1
    ·exact absurd z m2
    ·have z2:=un.frzs b ob _ z
     obtain ⟨e1,_⟩:=hok b _ z
     obtain ⟨e2,_⟩:=hok' b _ z2
     rw [e] at e1
     cases e1
     exact e2
   have KX':K.In s'.heap:=fun b o e=>kept b o (fun z=>by rw [z,hK1] at e; cases e) (fun z=>by rw [z,hK2] at e; cases e) (KX b o e)
   obtain ⟨as,hrd⟩:=Dw.reads (R:=R) (cl:=cl) hok' KX' d0 v u q r'
   refine ⟨u,as,rfl,hrd,⟨fun b o e=>?_,fun b o e=>?_⟩,os,bare⟩
   ·by_cases m1:b=t1
    ·subst m1
     obtain ⟨ps,hp⟩:=grown b hH1
     rw [hT1] at e
     cases e
     exact .inr (.inl ⟨hI1,rfl,#[],ps,rfl,by rw [Array.empty_append]; exact hp⟩)
    ·by_cases m2:b=t2
     ·subst m2
      obtain ⟨ps,hp⟩:=grown b hH2
      rw [hT2] at e
      cases e
      exact .inr (.inl ⟨hI2,rfl,#[],ps,rfl,by rw [Array.empty_append]; exact hp⟩)
     ·exact .inl (kept b o m1 m2 e)
   ·by_cases m1:b=t1
    ·subst m1
     obtain ⟨ps,hp⟩:=grown b hH1
     exact ⟨_,hp⟩
    ·by_cases m2:b=t2
     ·subst m2
      obtain ⟨ps,hp⟩:=grown b hH2
      exact ⟨_,hp⟩
     ·exact ⟨o,kept b o m1 m2 e⟩
theorem walk_specT {r:OpenSpec} {k:Nat} {q:Program} {loose:List Str} {XP:(Str→Option Value)→Heap→Prop} {YP:World→Heap→Prop} {d:DefRec} {K:Params→PySem.W.Frag} {ps:List Str} {x1 x2:Str} {c1 c2 t1 t2:Addr} {d1 d2:DefRec}
  (hwell:r.wellSaid=true) (hdf:d.params.defaults=[]) (hlen:r.args.length=ps.length) (hr:Room k callerA) (hY:∀ (w:World) (h:Heap),YP w h→(K w.params).In h)
  (f1:(recsOf q).find? (fun e=>e.name==x1)=some d1) (f2:(recsOf q).find? (fun e=>e.name==x2)=some d2) (i1:∀ P,PySem.W.tabIn (K P) x1=some (c1,t1)) (i2:∀ P,PySem.W.tabIn (K P) x2=some (c2,t2)) (l1:∀ P,(K P).lookup t1=none) (l2:∀ P,(K P).lookup t2=none)
  (F:∀ (w:World) (mg:Str→Option Value) (fa:Addr) (h:Heap),YP w h→(K w.params).In h→h.Ns mainGlobals mg→mg d.name=some (.ref fa) →
   ∃ (fd:FuncData) (sp:Sp),(∀ (s:Shared) (us:List Value),us.length=ps.length→BindsTo s fd ⟨us,[]⟩ (ps.zip us))∧(∀ base:Heap,(K w.params).In base→base.Ns mainGlobals mg→BMain mg base→FnOk r.prog w (K w.params) mg base CX0 k fa fd ps sp) ∧
    ∀ (H:Hp) (xs:List V) (a:Codec.denoteAll r.args),H t1=some (.tbl #[])→H t2=some (.tbl #[])→Codec.withinAll r.args a=true→Codec.app r.args r.asked a=true→DwAll (K w.params) H xs (Codec.encAll r.args a) →
     sp xs H (fun v H'=>Dw (K w.params) H' v (r.ret.enc (Codec.app r.args r.f a))) fun _ _ _=>False) :
  PySem.W.WalkOS q loose XP YP r d [] (fun f vs=>PySem.call f vs):=by
 intro w s_0 s₁ mg mb G Y fa o pm cd doc dV kV ho hd hcd hD hmg hg args vals as hpre hlay hrd hwl hlo
 obtain ⟨a,e1,e2⟩:=PySem.W.os_pre_some hpre
 obtain ⟨e3,hwi⟩:=Codec.encAll_of_decAll r.args args a e1
 subst e3
 have KX:=hY w _ Y
 obtain ⟨fd,sp,hb,hF,hsp⟩:=F w mg fa _ Y KX G.T.g hmg
 obtain ⟨C1,T1⟩:=PySem.W.tab_of G.T KX f1 (i1 _)
 obtain ⟨C2,T2⟩:=PySem.W.tab_of G.T KX f2 (i2 _)
 have BM:BMain mg s₁.heap:=by
  obtain ⟨bm,ob,b1,b2,b3,b4,b5,b6⟩:=G.T.bmain
  refine ⟨bm,ob,b1,b2,fun z=>?_,b3,b4,b5,b6⟩
  obtain ⟨o',es,ep,e,hd',_⟩:=G.T.g
  rw [z] at b3
  rw [b3] at e
  cases e
  rw [b6] at hd'
  cases hd'
 refine PySem.W.enter_call (codeAny_mono (spec_callT (R:=[]) (cl:=classAt s_0.heap) (d0:=r.ret.enc (Codec.app r.args r.f a)) KX G.T.g G.T.b G.T.builtins G.T.nolimit hg T1 T2 (C1.tab T1).isCodeTable (C2.tab T2).isCodeTable (l1 _) (l2 _) BM hwl (pl_encAll _ _) (layable_weight hlay) hr hF hb (by rw [encAll_len]; exact hlen)
  (fun H xs h1 h2 hS=>hsp H xs a h1 h2 hwi e2 hS) fun H e s' z=>z) fun r' s' hq=>?_)
 obtain ⟨u,as',rfl,h1,h2,h3,h4⟩:=hq
 exact ⟨.inl ⟨u,_,as',rfl,fun _=>rfl,h1,(OpenSpec.post_iff hwell hwi _ _).mpr rfl,fun z=>Bool.noConfusion (show false=true from z)⟩,h2,h3,h4⟩
end Rv
end
section
namespace Rv
open PySem PySem.Spec PyProof.Rows L2
section
variable {K:PySem.W.Frag} {mg:Str→Option Value} {h:Heap}
def mkDf {x:Str} {st:Stmt} {ps:List Str} {f:Addr} {oc kV doc pm cdv ct:Value} {od an:Option Addr} {osl:Array (Option Value)} (X:K.In h) (G:h.Ns mainGlobals mg) (a:PySem.W.nsIn K mainGlobals x=some (some (.ref f)))
  (l:K.lookup f=some ⟨oc,od,.func (PySem.W.fnOf x x (defArgs st) (defBody st) (defScope st) .none kV doc pm an cdv ct),osl⟩) (c:PySem.W.codeIn K cdv x=true) (k:PySem.W.keepIn K (.ref f)=true)
  (hb:∀ (kV doc pm:Value) (an:Option Addr) (cdv ct:Value) (us:List Value),us.length=ps.length→bindArgs (PySem.W.fnOf x x (defArgs st) (defBody st) (defScope st) .none kV doc pm an cdv ct) ⟨us,[]⟩=pure (ps.zip us)):Df K mg x st ps :=
 ⟨f,_,fun_mk l c k,(fun_mk l c k).binds hb,PySem.W.mg_of X G a⟩
def mkMt {C:Addr} {x qual:Str} {st:Stmt} {ps:List Str} {f:Addr} {oc kV doc pm cdv ct:Value} {od an:Option Addr} {osl:Array (Option Value)} (a:PySem.W.findIn K (.ref C) x=some (some (.ref f))) (i:PySem.W.isFn K (.ref f)=true)
  (l:K.lookup f=some ⟨oc,od,.func (PySem.W.fnOf x qual (defArgs st) (defBody st) (defScope st) .none kV doc pm an cdv ct),osl⟩) (c:PySem.W.codeIn K cdv qual=true) (k:PySem.W.keepIn K (.ref f)=true)
  (hb:∀ (kV doc pm:Value) (an:Option Addr) (cdv ct:Value) (us:List Value),us.length=ps.length→bindArgs (PySem.W.fnOf x qual (defArgs st) (defBody st) (defScope st) .none kV doc pm an cdv ct) ⟨us,[]⟩=pure (ps.zip us)):Mt K C x qual st ps :=
 ⟨f,_,fun_mk l c k,(fun_mk l c k).binds hb,⟨a,i,k⟩⟩
def mkCl {x qual:Str} {st:Stmt} {ps:List Str} {C f:Addr} {oc kV doc pm cdv ct:Value} {od an:Option Addr} {osl:Array (Option Value)} (X:K.In h) (G:h.Ns mainGlobals mg) (aC:PySem.W.nsIn K mainGlobals x=some (some (.ref C)))
  (a:PySem.W.findIn K (.ref C) "__init__"=some (some (.ref f))) (i:PySem.W.isFn K (.ref f)=true)
  (l:K.lookup f=some ⟨oc,od,.func (PySem.W.fnOf "__init__" qual (defArgs st) (defBody st) (defScope st) .none kV doc pm an cdv ct),osl⟩) (c:PySem.W.codeIn K cdv qual=true) (k:PySem.W.keepIn K (.ref f)=true)
  (pg:PySem.W.plainGet K C Str.empty=true) (hd:PySem.W.hasDictIn K C=true) (po:PySem.W.plainOver K C=true) (sa:PySem.W.findIn K (.ref C) "__setattr__"=some (some (.builtin "object.__setattr__"))) (mk:PySem.W.makesIn K C=true) (kc:PySem.W.keepIn K (.ref C)=true)
  (hb:∀ (kV doc pm:Value) (an:Option Addr) (cdv ct:Value) (us:List Value),us.length=ps.length→bindArgs (PySem.W.fnOf "__init__" qual (defArgs st) (defBody st) (defScope st) .none kV doc pm an cdv ct) ⟨us,[]⟩=pure (ps.zip us)):ClsX K mg x qual st ps :=
 ⟨C,PySem.W.mg_of X G aC,⟨pg,hd,po,sa⟩,f,_,fun_mk l c k,(fun_mk l c k).binds hb,⟨mk,a,i,kc⟩⟩
end
end Rv
namespace Rv
open PySem PySem.Spec PyProof.Rows L2
theorem mkKT {K:PySem.W.Frag} {a:Addr} {its:List Value} {n:Nat} {xs:List V} {od:Option Addr} {osl:Array (Option Value)} (l:K.lookup a=some ⟨.type "tuple",od,.seq its.toArray n,osl⟩) (hz:its.length≤100) (hv:Vals xs its):KT K a xs :=
 fun H=>.inr ⟨_,its.toArray,n,l,rfl,rfl,by rw [List.size_toArray]; exact line10 (by omega),by simpa using hv⟩
theorem mkLims0 {K:PySem.W.Frag} {a:Addr} (h:KT K a []):KLims K a []:=⟨[],h,rfl,fun i b l e=>by simp at e⟩
theorem mkLims1 {K:PySem.W.Frag} {a b:Addr} {x:Nat×Nat} (h:KT K a [.ref b]) (h1:KT K b [.int (x.1:Int),.int (x.2:Int)]):KLims K a [x]:=⟨[b],h,rfl,fun i c l e1 e2=>by
 match i,e1,e2 with
 | 0,e1,e2 =>
  cases e1
  cases e2
  exact h1
 | i + 1,e1,_=>simp at e1⟩
theorem mkLims2 {K:PySem.W.Frag} {a b c:Addr} {x y:Nat×Nat} (h:KT K a [.ref b,.ref c]) (h1:KT K b [.int (x.1:Int),.int (x.2:Int)]) (h2:KT K c [.int (y.1:Int),.int (y.2:Int)]):KLims K a [x,y]:=⟨[b,c],h,rfl,fun i d l e1 e2=>by
 match i,e1,e2 with
 | 0,e1,e2 =>
  cases e1
  cases e2
  exact h1
 | 1,e1,e2 =>
  cases e1
  cases e2
  exact h2
 | i + 2,e1,_=>simp at e1⟩
def aTs:Nat→Addr
 | 0=>17
 | 1=>21
 | 2=>23
 | 3=>27
 | 4=>29
 | 5=>31
 | 6=>33
 | _=>36
end Rv
end
section
namespace Rv
open PySem PySem.Spec PyProof.Rows L2
theorem tabs_new {P:Program} {w:World} {K:PySem.W.Frag} {mg:Str→Option Value} {T:Tx P w K mg} {H:Hp} (h1:H T.t1=some (.tbl #[])) (h2:H T.t2=some (.tbl #[])):Tabs T H:=⟨⟨#[],h1,trivial,.inl rfl⟩,⟨#[],h2,trivial,.inl rfl⟩⟩
theorem fin_F {P:Program} {w:World} {K:PySem.W.Frag} {mg:Str→Option Value} {fa:Addr} (T:Tx P w K mg) (GO:∀ base:Heap,BMain mg base→FnOk P w K mg base CX0 10 T.boats_in_order.f T.boats_in_order.fd ["series","r"] (spOrder T)) (hmg:mg "answers"=some (.ref fa)) (hb:∀ (s:Shared) (us:List Value),us.length=(["calls"]:List Str).length→BindsTo s T.answers.fd ⟨us,[]⟩ ((["calls"]:List Str).zip us))
  {t1 t2:Addr} (e1:T.t1=t1) (e2:T.t2=t2):∃ (fd:FuncData) (sp:Sp),(∀ (s:Shared) (us:List Value),us.length=(["calls"]:List Str).length→BindsTo s fd ⟨us,[]⟩ ((["calls"]:List Str).zip us)) ∧
   (∀ base:Heap,K.In base→base.Ns mainGlobals mg→BMain mg base→FnOk P w K mg base CX0 13 fa fd ["calls"] sp) ∧
   ∀ (H:Hp) (a:Addr) (l:List Int),H t1=some (.tbl #[])→H t2=some (.tbl #[])→PyWqatcz.answers_asked l=true→l.length≤70000→SqL K H a (l.map V.int)→sp [.ref a] H (fun v H'=>Dw K H' v (.list ((PyWqatcz.answers l).map PySem.W.WData.int))) fun _ _ _=>False:=by
 have e:=hmg.symm.trans T.answers.gl
 cases e
 refine ⟨T.answers.fd,spAnswers T,hb,fun base _ _ BM=>ok_answers T BM (GO base BM),fun H a l h1 h2 hask hlen hx=>?_⟩
 exact ⟨a,l,rfl,hx,hask,hlen,tabs_new (e1 ▸ h1) (e2 ▸ h2),fun H' p _ _ _ hp=>.lst (SqL.of hp) (dw_ints _)⟩
end Rv
end
namespace PySem.W.Fast
theorem tw7774005580046740542:True:=trivial
theorem tw6332646107375593372:True:=trivial
theorem tw15180964096857176910:True:=trivial
theorem tw10899975389226717256:True:=trivial
theorem tw2963264433034389846:True:=trivial
theorem tw15563889461822961336:True:=trivial
theorem tw15826413086811468561:True:=trivial
theorem tw12817474959076628699:True:=trivial
theorem tw5901903070565000041:True:=trivial
theorem tw3860234900320731684:True:=trivial
theorem tw5342960210617461559:True:=trivial
theorem tw15442598880994618743:True:=trivial
theorem tw5826202709410975843:True:=trivial
theorem tw4378041692696368691:True:=trivial
theorem tw16147292911142027546:True:=trivial
theorem tw7328013272403327427:True:=trivial
theorem tw6644010398002707057:True:=trivial
theorem tw10098924623629423020:True:=trivial
theorem tw5947385550247415590:True:=trivial
theorem tw3801445434875654632:True:=trivial
theorem tw1639864941416933865:True:=trivial
theorem tw11443125228450483704:True:=trivial
theorem tw16479739184020558681:True:=trivial
theorem tw15626981099987211632:True:=trivial
theorem tw6694214765568613255:True:=trivial
theorem tw13717880323525092439:True:=trivial
theorem tw12683972527610598555:True:=trivial
theorem tw9117421905640546167:True:=trivial
theorem tw15694294047071512381:True:=trivial
theorem tw8053194432630518058:True:=trivial
theorem tw12283763667170910109:True:=trivial
theorem tw8610633201280719792:True:=trivial
theorem tw9207233870478761288:True:=trivial
theorem tw10466987727768405905:True:=trivial
theorem tw595079899815602227:True:=trivial
theorem tw5114683736717546870:True:=trivial
theorem tw3628767840671846357:True:=trivial
theorem tw8686569742456528547:True:=trivial
theorem tw1973175672846247081:True:=trivial
theorem tw9064464385425703709:True:=trivial
theorem tw183514327560055203:True:=trivial
end PySem.W.Fast
section
open PySem PySem.W PyProof.Rows
set_option maxRecDepth 100000 in
set_option maxHeartbeats 0 in
theorem PySem.Challenge.cw_racetally_s01_answers_holds : PySem.Challenge.rw_racetally_s01_answers.Holds := by
 w_on; k_headS; (case hw=>exact ⟨[.list [.int 2]],by decide +kernel,by decide +kernel⟩)
 k_fillS
 refine Rv.walk_specT (r:=PySem.Challenge.rw_racetally_s01_answers) (k:=13) (ps:=["calls"]) (x1:="left_out") (x2:="boats_in_order") (c1:=288) (t1:=286) (c2:=324) (t2:=320) (by decide +kernel) rfl rfl ⟨rfl,by decide,by decide⟩ (fun w h Y=>PySem.W.kIn_of Y) rfl rfl (fun _=>rfl) (fun _=>rfl) (fun _=>rfl) (fun _=>rfl) ?F
 case F =>
  intro w mg fa h Y KX G hmg
  have z:=Rv.fin_F (P:=PySem.Challenge.rw_racetally_s01_answers.prog) (w:=w) (mg:=mg) (fa:=fa) {
   Line:=Rv.mkCl KX G rfl rfl rfl rfl rfl rfl rfl rfl rfl rfl rfl rfl (fun _ _ _ _ _ _ us hl=>match us,hl with | [_,_,_,_],_=>rfl),
   a_Line_word:=rfl,
   a_Line_name:=rfl,
   a_Line_numbers:=rfl,
   Race:=Rv.mkCl KX G rfl rfl rfl rfl rfl rfl rfl rfl rfl rfl rfl rfl (fun _ _ _ _ _ _ us hl=>match us,hl with | [_],_=>rfl),
   a_Race_results:=rfl,
   a_Race_pens:=rfl,
   Series:=Rv.mkCl KX G rfl rfl rfl rfl rfl rfl rfl rfl rfl rfl rfl rfl (fun _ _ _ _ _ _ us hl=>match us,hl with | [_],_=>rfl),
   a_Series_codes:=rfl,
   a_Series_line_count:=rfl,
   a_Series_boats:=rfl,
   a_Series_outs:=rfl,
   a_Series_races:=rfl,
   Desk:=Rv.mkCl KX G rfl rfl rfl rfl rfl rfl rfl rfl rfl rfl rfl rfl (fun _ _ _ _ _ _ us hl=>match us,hl with | [_],_=>rfl),
   a_Desk_series:=rfl,
   m_take:=Rv.mkMt rfl rfl rfl rfl rfl (fun _ _ _ _ _ _ us hl=>match us,hl with | [_,_],_=>rfl),
   m_more:=Rv.mkMt rfl rfl rfl rfl rfl (fun _ _ _ _ _ _ us hl=>match us,hl with | [_,_],_=>rfl),
   m_hold:=Rv.mkMt rfl rfl rfl rfl rfl (fun _ _ _ _ _ _ us hl=>match us,hl with | [_,_,_],_=>rfl),
   m_text:=Rv.mkMt rfl rfl rfl rfl rfl (fun _ _ _ _ _ _ us hl=>match us,hl with | [_],_=>rfl),
   m_sizes:=Rv.mkMt rfl rfl rfl rfl rfl (fun _ _ _ _ _ _ us hl=>match us,hl with | [_],_=>rfl),
   m_refusal:=Rv.mkMt rfl rfl rfl rfl rfl (fun _ _ _ _ _ _ us hl=>match us,hl with | [_,_,_],_=>rfl),
   m_points:=Rv.mkMt rfl rfl rfl rfl rfl (fun _ _ _ _ _ _ us hl=>match us,hl with | [_,_,_,_],_=>rfl),
   m_out:=Rv.mkMt rfl rfl rfl rfl rfl (fun _ _ _ _ _ _ us hl=>match us,hl with | [_,_,_],_=>rfl),
   m_total:=Rv.mkMt rfl rfl rfl rfl rfl (fun _ _ _ _ _ _ us hl=>match us,hl with | [_,_,_],_=>rfl),
   m_before:=Rv.mkMt rfl rfl rfl rfl rfl (fun _ _ _ _ _ _ us hl=>match us,hl with | [_,_,_,_],_=>rfl),
   m_place:=Rv.mkMt rfl rfl rfl rfl rfl (fun _ _ _ _ _ _ us hl=>match us,hl with | [_,_,_],_=>rfl),
   m_order:=Rv.mkMt rfl rfl rfl rfl rfl (fun _ _ _ _ _ _ us hl=>match us,hl with | [_,_],_=>rfl),
   sign_of:=Rv.mkDf KX G rfl rfl rfl rfl (fun _ _ _ _ _ _ us hl=>match us,hl with | [_],_=>rfl),
   parts_of:=Rv.mkDf KX G rfl rfl rfl rfl (fun _ _ _ _ _ _ us hl=>match us,hl with | [_],_=>rfl),
   is_name:=Rv.mkDf KX G rfl rfl rfl rfl (fun _ _ _ _ _ _ us hl=>match us,hl with | [_],_=>rfl),
   number_of:=Rv.mkDf KX G rfl rfl rfl rfl (fun _ _ _ _ _ _ us hl=>match us,hl with | [_,_],_=>rfl),
   numbers_of:=Rv.mkDf KX G rfl rfl rfl rfl (fun _ _ _ _ _ _ us hl=>match us,hl with | [_,_],_=>rfl),
   read_line:=Rv.mkDf KX G rfl rfl rfl rfl (fun _ _ _ _ _ _ us hl=>match us,hl with | [_],_=>rfl),
   race_copy:=Rv.mkDf KX G rfl rfl rfl rfl (fun _ _ _ _ _ _ us hl=>match us,hl with | [_],_=>rfl),
   series_copy:=Rv.mkDf KX G rfl rfl rfl rfl (fun _ _ _ _ _ _ us hl=>match us,hl with | [_],_=>rfl),
   result_word:=Rv.mkDf KX G rfl rfl rfl rfl (fun _ _ _ _ _ _ us hl=>match us,hl with | [_,_],_=>rfl),
   may_have_pen:=Rv.mkDf KX G rfl rfl rfl rfl (fun _ _ _ _ _ _ us hl=>match us,hl with | [_,_],_=>rfl),
   boat_line_cant_stand:=Rv.mkDf KX G rfl rfl rfl rfl (fun _ _ _ _ _ _ us hl=>match us,hl with | [_,_],_=>rfl),
   cant_stand:=Rv.mkDf KX G rfl rfl rfl rfl (fun _ _ _ _ _ _ us hl=>match us,hl with | [_,_],_=>rfl),
   out_clashes:=Rv.mkDf KX G rfl rfl rfl rfl (fun _ _ _ _ _ _ us hl=>match us,hl with | [_,_],_=>rfl),
   boat_line_clashes:=Rv.mkDf KX G rfl rfl rfl rfl (fun _ _ _ _ _ _ us hl=>match us,hl with | [_,_],_=>rfl),
   clashes:=Rv.mkDf KX G rfl rfl rfl rfl (fun _ _ _ _ _ _ us hl=>match us,hl with | [_,_],_=>rfl),
   too_much:=Rv.mkDf KX G rfl rfl rfl rfl (fun _ _ _ _ _ _ us hl=>match us,hl with | [_,_],_=>rfl),
   why_wrong:=Rv.mkDf KX G rfl rfl rfl rfl (fun _ _ _ _ _ _ us hl=>match us,hl with | [_,_],_=>rfl),
   put_line:=Rv.mkDf KX G rfl rfl rfl rfl (fun _ _ _ _ _ _ us hl=>match us,hl with | [_,_],_=>rfl),
   add_text:=Rv.mkDf KX G rfl rfl rfl rfl (fun _ _ _ _ _ _ us hl=>match us,hl with | [_,_],_=>rfl),
   greatest_divisor:=Rv.mkDf KX G rfl rfl rfl rfl (fun _ _ _ _ _ _ us hl=>match us,hl with | [_,_],_=>rfl),
   lowest_terms:=Rv.mkDf KX G rfl rfl rfl rfl (fun _ _ _ _ _ _ us hl=>match us,hl with | [_,_],_=>rfl),
   told_fraction:=Rv.mkDf KX G rfl rfl rfl rfl (fun _ _ _ _ _ _ us hl=>match us,hl with | [_],_=>rfl),
   most_points:=Rv.mkDf KX G rfl rfl rfl rfl (fun _ _ _ _ _ _ us hl=>match us,hl with | [_],_=>rfl),
   own_points:=Rv.mkDf KX G rfl rfl rfl rfl (fun _ _ _ _ _ _ us hl=>match us,hl with | [_,_,_],_=>rfl),
   average_points:=Rv.mkDf KX G rfl rfl rfl rfl (fun _ _ _ _ _ _ us hl=>match us,hl with | [_,_,_],_=>rfl),
   points_by_race:=Rv.mkDf KX G rfl rfl rfl rfl (fun _ _ _ _ _ _ us hl=>match us,hl with | [_,_,_],_=>rfl),
   out_count:=Rv.mkDf KX G rfl rfl rfl rfl (fun _ _ _ _ _ _ us hl=>match us,hl with | [_,_],_=>rfl),
   left_out:=Rv.mkDf KX G rfl rfl rfl rfl (fun _ _ _ _ _ _ us hl=>match us,hl with | [_,_,_],_=>rfl),
   kept_points:=Rv.mkDf KX G rfl rfl rfl rfl (fun _ _ _ _ _ _ us hl=>match us,hl with | [_,_,_],_=>rfl),
   boat_score:=Rv.mkDf KX G rfl rfl rfl rfl (fun _ _ _ _ _ _ us hl=>match us,hl with | [_,_,_],_=>rfl),
   all_scores:=Rv.mkDf KX G rfl rfl rfl rfl (fun _ _ _ _ _ _ us hl=>match us,hl with | [_,_],_=>rfl),
   who_is_before:=Rv.mkDf KX G rfl rfl rfl rfl (fun _ _ _ _ _ _ us hl=>match us,hl with | [_,_],_=>rfl),
   place_and_shared:=Rv.mkDf KX G rfl rfl rfl rfl (fun _ _ _ _ _ _ us hl=>match us,hl with | [_,_,_],_=>rfl),
   boats_in_order:=Rv.mkDf KX G rfl rfl rfl rfl (fun _ _ _ _ _ _ us hl=>match us,hl with | [_,_],_=>rfl),
   call_end:=Rv.mkDf KX G rfl rfl rfl rfl (fun _ _ _ _ _ _ us hl=>match us,hl with | [_,_],_=>rfl),
   answer:=Rv.mkDf KX G rfl rfl rfl rfl (fun _ _ _ _ _ _ us hl=>match us,hl with | [_,_],_=>rfl),
   answers:=Rv.mkDf KX G rfl rfl rfl rfl (fun _ _ _ _ _ _ us hl=>match us,hl with | [_],_=>rfl),
   g_BLANK:=⟨_,PySem.W.mg_of KX G rfl⟩,
   g_LETTER_A:=⟨_,PySem.W.mg_of KX G rfl⟩,
   g_DIGIT_0:=⟨_,PySem.W.mg_of KX G rfl⟩,
   g_LETTERS:=⟨_,PySem.W.mg_of KX G rfl⟩,
   g_DIGITS:=⟨_,PySem.W.mg_of KX G rfl⟩,
   g_LONGEST_NAME:=⟨_,PySem.W.mg_of KX G rfl⟩,
   g_LONGEST_NUMBER:=⟨_,PySem.W.mg_of KX G rfl⟩,
   g_LINE_FEED:=⟨_,PySem.W.mg_of KX G rfl⟩,
   g_RIGHT:=⟨_,PySem.W.mg_of KX G rfl⟩,
   g_NOT_FORMED:=⟨_,PySem.W.mg_of KX G rfl⟩,
   g_TOO_MUCH:=⟨_,PySem.W.mg_of KX G rfl⟩,
   g_CANT_STAND:=⟨_,PySem.W.mg_of KX G rfl⟩,
   g_CLASHES:=⟨_,PySem.W.mg_of KX G rfl⟩,
   g_MOST_BOATS:=⟨_,PySem.W.mg_of KX G rfl⟩,
   g_MOST_OUTS:=⟨_,PySem.W.mg_of KX G rfl⟩,
   g_MOST_RACES:=⟨_,PySem.W.mg_of KX G rfl⟩,
   g_PARTS:=⟨_,PySem.W.mg_of KX G rfl⟩,
   g_TAKE:=⟨_,PySem.W.mg_of KX G rfl⟩,
   g_MORE:=⟨_,PySem.W.mg_of KX G rfl⟩,
   g_TEXT:=⟨_,PySem.W.mg_of KX G rfl⟩,
   g_SIZES:=⟨_,PySem.W.mg_of KX G rfl⟩,
   g_POINTS:=⟨_,PySem.W.mg_of KX G rfl⟩,
   g_OUT:=⟨_,PySem.W.mg_of KX G rfl⟩,
   g_TOTAL:=⟨_,PySem.W.mg_of KX G rfl⟩,
   g_BEFORE:=⟨_,PySem.W.mg_of KX G rfl⟩,
   g_PLACE:=⟨_,PySem.W.mg_of KX G rfl⟩,
   g_GRANTED:=⟨_,PySem.W.mg_of KX G rfl⟩,
   g_TOO_LONG:=⟨_,PySem.W.mg_of KX G rfl⟩,
   g_NO_SUCH:=⟨_,PySem.W.mg_of KX G rfl⟩,
   g_FAULT:=⟨_,PySem.W.mg_of KX G rfl⟩,
   g_TOO_MANY_RACES:=⟨_,PySem.W.mg_of KX G rfl⟩,
   g_MOST_CODES:=⟨_,PySem.W.mg_of KX G rfl⟩,
   aF:=15,
   aT:=Rv.aTs,
   g_FORMS:=PySem.W.mg_of KX G rfl,
   forms:=L2.kd_of (es:=[_,_,_,_,_,_,_,_]) rfl rfl (.cons ⟨rfl,rfl,rfl⟩ (.cons ⟨rfl,rfl,rfl⟩ (.cons ⟨rfl,rfl,rfl⟩ (.cons ⟨rfl,rfl,rfl⟩ (.cons ⟨rfl,rfl,rfl⟩ (.cons ⟨rfl,rfl,rfl⟩ (.cons ⟨rfl,rfl,rfl⟩ (.cons ⟨rfl,rfl,rfl⟩ .nil)))))))) (by decide +kernel),
   form0:=⟨16,(Rv.mkKT (its:=[_,_]) rfl (by decide) (.cons rfl (.cons rfl .nil))),(Rv.mkLims0 (Rv.mkKT (its:=[]) rfl (by decide) .nil))⟩,
   form1:=⟨20,(Rv.mkKT (its:=[_,_]) rfl (by decide) (.cons rfl (.cons rfl .nil))),(Rv.mkLims2 (Rv.mkKT (its:=[_,_]) rfl (by decide) (.cons rfl (.cons rfl .nil))) (Rv.mkKT (its:=[_,_]) rfl (by decide) (.cons ⟨_,rfl⟩ (.cons ⟨_,rfl⟩ .nil))) (Rv.mkKT (its:=[_,_]) rfl (by decide) (.cons ⟨_,rfl⟩ (.cons ⟨_,rfl⟩ .nil))))⟩,
   form2:=⟨22,(Rv.mkKT (its:=[_,_]) rfl (by decide) (.cons rfl (.cons rfl .nil))),(Rv.mkLims0 (Rv.mkKT (its:=[]) rfl (by decide) .nil))⟩,
   form3:=⟨26,(Rv.mkKT (its:=[_,_]) rfl (by decide) (.cons rfl (.cons rfl .nil))),(Rv.mkLims2 (Rv.mkKT (its:=[_,_]) rfl (by decide) (.cons rfl (.cons rfl .nil))) (Rv.mkKT (its:=[_,_]) rfl (by decide) (.cons ⟨_,rfl⟩ (.cons ⟨_,rfl⟩ .nil))) (Rv.mkKT (its:=[_,_]) rfl (by decide) (.cons ⟨_,rfl⟩ (.cons ⟨_,rfl⟩ .nil))))⟩,
   form4:=⟨28,(Rv.mkKT (its:=[_,_]) rfl (by decide) (.cons rfl (.cons rfl .nil))),(Rv.mkLims0 (Rv.mkKT (its:=[]) rfl (by decide) .nil))⟩,
   form5:=⟨30,(Rv.mkKT (its:=[_,_]) rfl (by decide) (.cons rfl (.cons rfl .nil))),(Rv.mkLims0 (Rv.mkKT (its:=[]) rfl (by decide) .nil))⟩,
   form6:=⟨32,(Rv.mkKT (its:=[_,_]) rfl (by decide) (.cons rfl (.cons rfl .nil))),(Rv.mkLims0 (Rv.mkKT (its:=[]) rfl (by decide) .nil))⟩,
   form7:=⟨35,(Rv.mkKT (its:=[_,_]) rfl (by decide) (.cons rfl (.cons rfl .nil))),(Rv.mkLims1 (Rv.mkKT (its:=[_]) rfl (by decide) (.cons rfl .nil)) (Rv.mkKT (its:=[_,_]) rfl (by decide) (.cons ⟨_,rfl⟩ (.cons ⟨_,rfl⟩ .nil))))⟩,
   aN:=326,
   g_COUNTS:=PySem.W.mg_of KX G rfl,
   counts:=L2.kd_of (es:=[_,_,_,_,_,_,_,_]) rfl rfl (.cons ⟨rfl,rfl,⟨_,rfl⟩⟩ (.cons ⟨rfl,rfl,⟨_,rfl⟩⟩ (.cons ⟨rfl,rfl,⟨_,rfl⟩⟩ (.cons ⟨rfl,rfl,⟨_,rfl⟩⟩ (.cons ⟨rfl,rfl,⟨_,rfl⟩⟩ (.cons ⟨rfl,rfl,⟨_,rfl⟩⟩ (.cons ⟨rfl,rfl,⟨_,rfl⟩⟩ (.cons ⟨rfl,rfl,⟨_,rfl⟩⟩ .nil)))))))) (by decide +kernel),
   n_len:=PySem.W.mg_none_of KX G rfl,
   n_list:=PySem.W.mg_none_of KX G rfl,
   n_dict:=PySem.W.mg_none_of KX G rfl,
   n_int:=PySem.W.mg_none_of KX G rfl,
   n_min:=PySem.W.mg_none_of KX G rfl,
   n_sum:=PySem.W.mg_none_of KX G rfl,
   n_sorted:=PySem.W.mg_none_of KX G rfl,
   n_range:=PySem.W.mg_none_of KX G rfl,
   n_reversed:=PySem.W.mg_none_of KX G rfl,
   n_zip:=PySem.W.mg_none_of KX G rfl,
   t1:=286,
   c1:=288,
   hd1:=rfl,
   t2:=320,
   c2:=324,
   hd2:=rfl,
   t12:=by decide,
   code1:=⟨_,_,_,_,_,_,_,_,rfl,rfl,rfl⟩,
   code2:=⟨_,_,_,_,_,_,_,_,rfl,rfl,rfl⟩ } (fun base BM=>Rv.ok_order _ BM) hmg (fun s us hu=>match us,hu with | [_],_=>.of_eq rfl) (t1:=286) (t2:=320) rfl rfl
  obtain ⟨fd,sp,z1,z2,z3⟩:=z
  refine ⟨fd,sp,z1,z2,fun H xs a h1 h2 hwi hask hx=>?_⟩
  cases hx with
  | cons d1 d2 =>
   cases d2
   cases d1 with
   | lst hs ha =>
    have e:=L2.ints_dw a.1 _ ha
    subst e
    have q:((Codec.inLen 0 69900 a.1 && a.1.all (Codec.inInt _ _)) && true)=true:=hwi
    rw [Bool.and_eq_true,Bool.and_eq_true] at q
    have:=(Codec.inNat_iff.mp q.1.1).2
    exact z3 H _ a.1 h1 h2 hask (by omega) hs
end
