import PyProof.Rows.All
import OpenK.AllK
import PySem.Spec
import PyProof.Rows.BitMore
import PyProof.StationsW
import PyProof.PassesOwn
import OpenK.KWalk
import PyProof.ExcBaseAll.Exception
import PyProof.InstStoreFacts
import PyProof.ExcArgs
import PyProof.RulesAs
import Wide.All
import Wide.FinOn
import PyProof.EqAt
import PyProof.EqKinds
import PyProof.TupleCall
import KE.BitLaws
import Open.SpecLaws
import KE.OsHead
import KE.OsGo
import PyProof.NsDelKeeps
import PySem.Challenge.RW_buildqueries_s01_answers
set_option Elab.async false
set_option linter.all false
set_option maxRecDepth 100000
set_option maxHeartbeats 2000000
namespace PySem.W.Fast
def tw3900617403152554405:=()
def tw14170597156145576200:=()
def tw7394541231714280760:=()
def tw5377370961653158533:=()
def tw9584440909990577236:=()
def tw4128135564892596053:=()
def tw7590324314776292095:=()
def tw17388077464051428175:=()
def tw6125908968357027053:=()
def tw3965424141184838229:=()
def tw8749176591388322140:=()
def tw11073682527369101717:=()
def tw15954578959859893112:=()
def tw9381624105696788977:=()
def tw6055607696700378013:=()
def tw17346105292702783497:=()
def tw18253633927855948909:=()
def tw18235092866738200367:=()
def tw8977118584344825786:=()
def tw4125431503196322634:=()
def tw17704170601613083523:=()
def tw9838745161045260193:=()
def tw9109194148229142951:=()
def tw18329123294305559368:=()
def tw12779658104815053048:=()
def tw16236178088939819202:=()
def tw11459835416231870814:=()
def tw5790247682962585012:=()
def tw5850933283113563117:=()
def tw18101413767956233607:=()
def tw3074974415517601183:=()
def tw5497355709349748528:=()
def tw11659517418779225250:=()
def tw7515530900189973441:=()
def tw746277376651633646:=()
def tw17414652547901645757:=()
def tw16331412657707392883:=()
def tw3119158505615413637:=()
def tw7762828411289034211:=()
def tw9135818077988100850:=()
def tw11056941753301559724:=()
def tw15132044755470522205:=()
def tw10861666563663187963:=()
def tw15034429586977505956:=()
def tw6973054234852400535:=()
def tw17497745435798647476:=()
def tw10508211537445609661:=()
def tw1499101856154131258:=()
def tw400693096589788766:=()
def tw17051834067643165827:=()
def tw2631497152771714290:=()
def tw1260624964407438950:=()
def tw11828653114855581762:=()
def tw12002037420758790326:=()
def tw4836243020885768180:=()
def tw10913758887079811545:=()
def tw7573089273720376944:=()
def tw11521240562540951075:=()
def tw5397062827078947045:=()
def tw6811387315638765410:=()
def tw7798276329715815206:=()
def tw17515272358281021237:=()
def tw8681886191464019969:=()
def tw14423816282794675125:=()
def tw9397180406721733504:=()
def tw14694286875372118194:=()
def tw4658105936169444531:=()
def tw9780531565607390508:=()
def tw16964840178328054233:=()
def tw7645241992064469247:=()
def tw13245657731559176592:=()
def tw11646786829311612276:=()
def tw14851610306388878319:=()
def tw7173733610088689287:=()
def tw8723079065738363131:=()
def tw15686261067312941984:=()
def tw18436120674630095085:=()
def tw18274123948417633390:=()
def tw12170531982998990098:=()
def tw1980022454238043154:=()
def tw2127450905461748376:=()
def tw10493483022451267042:=()
def tw4639463654669390105:=()
def tw8254876987398934980:=()
def tw3738473854185437484:=()
def tw9936092833594162576:=()
def tw1432079209741192020:=()
def tw9667862472972937648:=()
def tw34876536373500238:=()
def tw14255944356678918227:=()
def tw7824156842633519268:=()
def tw2811126495600135275:=()
def tw727302227632672860:=()
def tw15663697399282502722:=()
def tw4522843710647577658:=()
def tw13916535479423995035:=()
def tw16333685595803941080:=()
def tw10991856743384049363:=()
def tw3786351559802858049:=()
def tw18085645683643339731:=()
def tw2746283994158083180:=()
def tw17503685113839098459:=()
def tw3343317062749615863:=()
def tw4221119352081551100:=()
def tw9171049228485288225:=()
def tw1613766819784311525:=()
def tw7287929187470727790:=()
def tw11999037790631065902:=()
def tw7090583159034304218:=()
def tw2157992287789639717:=()
def tw17305542723797145934:=()
def tw6272783851403007552:=()
def tw4501102994201605334:=()
def tw8736643089089567933:=()
def tw9492612817872747591:=()
def tw16123084091569377344:=()
def tw5274206872893097761:=()
def tw42924481163112618:=()
def tw3608709294744192950:=()
def tw13023112910176511864:=()
def tw7432278089270903124:=()
def tw15197047196329793170:=()
def tw16803628342826163451:=()
def tw17182832182112778710:=()
def tw3657101946339811623:=()
def tw11012152292705862532:=()
def tw17420786404974920466:=()
def tw1216141858212021555:=()
def tw7584884309348002714:=()
def tw2061672427568518723:=()
def tw7408619546160312959:=()
def tw16646825109025886059:=()
def tw12835895908289554344:=()
def tw823073790172669332:=()
def tw2615011591731635108:=()
def tw5135610057940505425:=()
def tw5838697853471181881:=()
def tw16896170988364337193:=()
def tw1867012636812697628:=()
end PySem.W.Fast
open PySem PySem.W PyProof.Rows in
set_option maxHeartbeats 0 in
noncomputable def Bp.hd : { T : Prop // (True → T) → PySem.Challenge.rw_buildqueries_s01_answers.Holds } := ⟨_, fun walk => by
  refine' And.right (a := type_of% (walk trivial)) ⟨?hc, ?main⟩
  case main =>
    w_on; k_headS; (case hw => exact ⟨[.list [.int 1, .int 0, .int 0]], by decide +kernel, by decide +kernel⟩)
  case hc =>
    k_fillS
    exact walk trivial⟩
abbrev VG:=Vabldl.Graph
abbrev FG:=PySem.W.Frag
abbrev VT:=Vabldl.Text
abbrev VU:=Vabldl.Tok
namespace Bq
open Vabldl
def bits(n m:Nat):List Nat:=(List.range n).filter fun i=>m.testBit i
theorem dI{n m x:Nat}:x∈bits n m↔x<n/\m.testBit x=true:=by
 unfold bits;rw[List.mem_filter,List.mem_range]
theorem Qr(n m x:Nat):(bits n m).contains x=(decide (x<n)&&m.testBit x):=by
 rw[Bool.eq_iff_iff,List.contains_iff_mem,dI];simp
theorem eY{n m x:Nat}(h:m<2^n):(bits n m).contains x=m.testBit x:=by
 rw[Qr]
 by_cases hx:x<n
 ·simp [hx]
 ·have:m.testBit x=false:=Nat.testBit_lt_two_pow (Nat.lt_of_lt_of_le h (Nat.pow_le_pow_right (by decide) (Nat.le_of_not_lt hx)));simp [this]
theorem gO{α:Type}{l:List α}{p q:α->Bool}(h: ∀x∈l,p x=q x):l.filter p=l.filter q:=List.filter_congr h
theorem Qb{n m k:Nat}(h: ∀x,x<n->m.testBit x=k.testBit x):bits n m=bits n k:=
 gO fun x hx=>h x (List.mem_range.mp hx)
theorem yD{n m k:Nat}(hm:m<2^n)(hk:k<2^n)(h:bits n m=bits n k):m=k:=by
 apply Nat.eq_of_testBit_eq
 intro i;rw[<-eY hm,<-eY hk,h]
theorem uE(n m:Nat)(p:Nat->Bool):(bits n m).filter p=(List.range n).filter fun i=>m.testBit i&&p i:=by
 unfold bits;rw[List.filter_filter]
 apply gO
 intro x _;exact Bool.and_comm _ _
theorem mh(n:Nat)(p:Nat->Bool)(m:Nat)(h: ∀i,i<n->m.testBit i=p i):(List.range n).filter p=bits n m:=
 gO fun x hx=>(h x (List.mem_range.mp hx)).symm
theorem rf(n:Nat):bits n 0=[]:=by
 unfold bits;rw[List.filter_eq_nil_iff];intro x _;simp
theorem Qe{n m:Nat}(h:m<2^n)(e:bits n m=[]):m=0:=yD h (Nat.two_pow_pos n) (by rw[e,rf])
theorem ya(n:Nat):List.range (n+1)=List.range n++[n]:=List.range_succ
theorem EM{n k m:Nat}(h:m<2^n)(hk:n<=k):bits k m=bits n m:=by
 induction k with
 |zero=>
  have:n=0:=Nat.le_zero.mp hk;rw[this]
 |succ k ih=>
  by_cases e:n=k+1
  ·rw[e]
  ·have p_:n<=k:=by omega
   rw[<-ih p_];unfold bits;rw[ya,List.filter_append];have:m.testBit k=false:=Nat.testBit_lt_two_pow (Nat.lt_of_lt_of_le h (Nat.pow_le_pow_right (by decide) p_));simp [this]
theorem vY{n a b:Nat}(ha:a<2^n)(hb:b<2^n):a ||| b<2^n:=Nat.or_lt_two_pow ha hb
theorem mH{n a:Nat}(ha:a<2^n)(b:Nat):a&&&b<2^n:=Nat.lt_of_le_of_lt Nat.and_le_left ha
theorem lx{n a:Nat}(h:a<n):2^a<2^n:=Nat.pow_lt_pow_right (by decide) h
def minus(a b:Nat):Nat:=a&&&(a ^^^ b)
theorem gb(a b i:Nat):(minus a b).testBit i=(a.testBit i&& !b.testBit i):=by
 unfold minus;rw[Nat.testBit_and,Nat.testBit_xor];cases a.testBit i<;>cases b.testBit i<;>rfl
theorem yO{n a:Nat}(ha:a<2^n)(b:Nat):minus a b<2^n:=mH ha _
theorem lq(a i:Nat):(2^a).testBit i=decide (a=i):=Nat.testBit_two_pow ..
def maskOf(l:List Nat):Nat:=l.foldl (fun m i=>m ||| 2^i) 0
theorem xH(f:Nat->Nat): ∀(l:List Nat)(m i:Nat),(l.foldl (fun m a=>m ||| f a) m).testBit i=(m.testBit i || l.any fun a=>(f a).testBit i)
 |[],m,i=>by simp
 |a::l,m,i=>by
  rw[List.foldl_cons,xH f l,Nat.testBit_or,List.any_cons,Bool.or_assoc]
theorem xQ{n:Nat}(f:Nat->Nat): ∀(l:List Nat)(m:Nat),m<2^n->(∀a∈l,f a<2^n)->l.foldl (fun m a=>m ||| f a) m<2^n
 |[],m,hm,_=>hm
 |a::l,m,hm,h=>by
  rw[List.foldl_cons];exact xQ f l _ (vY hm (h a (List.mem_cons_self ..))) fun x hx=>h x (List.mem_cons_of_mem _ hx)
theorem x5(l:List Nat)(i:Nat):(maskOf l).testBit i=l.contains i:=by
 unfold maskOf;rw[xH (fun a=>2^a)];rw[Nat.zero_testBit,Bool.false_or,List.contains_eq_any_beq]
 congr 1
 funext a
 rw[lq]
 by_cases e:a=i
 ·subst e;simp
 ·rw[decide_eq_false e]
  symm
  exact beq_eq_false_iff_ne.mpr fun q=>e q.symm
theorem ym{n:Nat}{l:List Nat}(h: ∀a∈l,a<n):maskOf l<2^n:=
 xQ (fun a=>2^a) l 0 (Nat.two_pow_pos n) fun a ha=>lx (h a ha)
theorem MB(n:Nat)(p:Nat->Bool):bits n (maskOf ((List.range n).filter p))=(List.range n).filter p:=by
 apply gO
 intro x hx;rw[x5];rw[Bool.eq_iff_iff,List.contains_iff_mem,List.mem_filter];simp [List.mem_range.mp hx]
theorem Qa(n:Nat):bits n (2^n-1)=List.range n:=by
 unfold bits;rw[List.filter_eq_self];intro x hx;rw[Nat.testBit_two_pow_sub_one];exact decide_eq_true (List.mem_range.mp hx)
theorem range_one{n a:Nat}(h:a<n):(List.range n).filter (fun i=>decide (a=i))=[a]:=by
 induction n with
 |zero=>omega
 |succ n ih=>
  rw[ya,List.filter_append]
  by_cases e:a=n
  ·subst e;have:(List.range a).filter (fun i=>decide (a=i))=[]:=by
    rw[List.filter_eq_nil_iff];intro x hx;have:=List.mem_range.mp hx;simp;omega
   rw[this];simp
  ·rw[ih (by omega)];simp [e]
theorem oZ{n a:Nat}(h:a<n):bits n (2^a)=[a]:=by
 rw[<-range_one h]
 apply gO
 intro x _;exact lq a x
theorem kY{n m:Nat}(h:m<2^n)(hm:m≠0): ∃a r,bits n m=a::r/\a<n/\m.testBit a=true:=by
 cases e:bits n m with
 |nil=>exact absurd (Qe h e) hm
 |cons a r=>
  have:a∈bits n m:=by rw[e];exact List.mem_cons_self ..
  exact⟨a,r,rfl,(dI.mp this).1,(dI.mp this).2⟩
theorem ES(n m:Nat)(p:Nat->Bool):(bits n m).find? p=((List.range n).filter fun i=>m.testBit i&&p i).head?:=by
 rw[<-uE,List.head?_filter]
structure cX(g:Graph)(needs:List Nat):Prop where
 len:needs.length=g.length
 low: ∀m∈needs,m<2^g.length
 bit: ∀a b,a<g.length->(needs.getD a 0).testBit b=(needsOf g a).contains b
def nextM(needs:List Nat)(l:List Nat):Nat:=l.foldl (fun m a=>m ||| needs.getD a 0) 0
theorem kZ(needs:List Nat)(l:List Nat)(b:Nat):(nextM needs l).testBit b=l.any fun a=>(needs.getD a 0).testBit b:=by
 unfold nextM;rw[xH (fun a=>needs.getD a 0),Nat.zero_testBit,Bool.false_or]
theorem pj{n:Nat}{needs:List Nat}(h: ∀m∈needs,m<2^n)(a:Nat):needs.getD a 0<2^n:=by
 rw[List.getD_eq_getElem?_getD];cases e:needs[a]? with
 |none=>exact Nat.two_pow_pos n
 |some m=>exact h m (List.mem_of_getElem? e)
theorem F9{n:Nat}{needs:List Nat}(h: ∀m∈needs,m<2^n)(l:List Nat):nextM needs l<2^n:=
 xQ (fun a=>needs.getD a 0) l 0 (Nat.two_pow_pos n) fun a _=>pj h a
theorem rD{n m:Nat}(p:Nat->Bool):(bits n m).any p=(List.range n).any fun i=>m.testBit i&&p i:=by
 unfold bits;rw[List.any_filter]
theorem Hc{α:Type}{l:List α}{p q:α->Bool}(h: ∀x∈l,p x=q x):l.any p=l.any q:=by
 rw[Bool.eq_iff_iff,List.any_eq_true,List.any_eq_true];constructor
 ·rintro⟨x,hx,e⟩;exact⟨x,hx,by rw[<-h x hx];exact e⟩
 ·rintro⟨x,hx,e⟩;exact⟨x,hx,by rw[h x hx];exact e⟩
def dO(needs:List Nat)(n m:Nat):Nat:=m ||| nextM needs (bits n m)
theorem vI{n:Nat}{needs:List Nat}(h: ∀m∈needs,m<2^n){m:Nat}(hm:m<2^n):dO needs n m<2^n:=vY hm (F9 h _)
theorem PZ{g:Graph}{needs:List Nat}(R:cX g needs){m:Nat}(hm:m<2^g.length):stepOn g (bits g.length m)=bits g.length (dO needs g.length m):=by
 unfold stepOn those allOf;refine mh _ _ _ fun b hb=>?_;unfold dO;rw[Nat.testBit_or,kZ,eY hm]
 congr 1
 refine Hc fun a ha=>?_;exact R.bit a b (dI.mp ha).1
def flipped(n:Nat)(needs:List Nat):List Nat:=(List.range n).map fun b=>maskOf ((List.range n).filter fun a=>(needs.getD a 0).testBit b)
theorem xP(n:Nat)(needs:List Nat):(flipped n needs).length=n:=by simp [flipped]
theorem Oa{n b:Nat}(needs:List Nat)(h:b<n):(flipped n needs).getD b 0=maskOf ((List.range n).filter fun a=>(needs.getD a 0).testBit b):=by
 rw[List.getD_eq_getElem?_getD];unfold flipped;rw[List.getElem?_map,List.getElem?_range h];rfl
theorem mn{n b:Nat}(needs:List Nat)(h:b<n)(a:Nat):((flipped n needs).getD b 0).testBit a=(decide (a<n)&&(needs.getD a 0).testBit b):=by
 rw[Oa needs h,x5,Bool.eq_iff_iff,List.contains_iff_mem,List.mem_filter];simp
theorem fo(n:Nat)(needs:List Nat): ∀m∈flipped n needs,m<2^n:=by
 intro m hm;unfold flipped at hm;obtain⟨b,_,rfl⟩:=List.mem_map.mp hm;exact ym fun a ha=>List.mem_range.mp (List.mem_filter.mp ha).1
theorem F8{g:Graph}{needs:List Nat}(R:cX g needs){a b:Nat}(ha:a<g.length)(h:(needsOf g a).contains b=true):b<g.length:=by
 rw[<-R.bit a b ha] at h
 by_cases hb:b<g.length
 ·exact hb
 ·have q:(needs.getD a 0).testBit b=false:=Nat.testBit_lt_two_pow (Nat.lt_of_lt_of_le (pj R.low a) (Nat.pow_le_pow_right (by decide) (Nat.le_of_not_lt hb)));rw[q] at h;cases h
theorem OF{g:Graph}{needs:List Nat}(R:cX g needs){m:Nat}(hm:m<2^g.length):
  stepBack g (bits g.length m)=bits g.length (dO (flipped g.length needs) g.length m):=by
 unfold stepBack those allOf;refine mh _ _ _ fun a ha=>?_;unfold dO;rw[Nat.testBit_or,kZ,eY hm]
 congr 1
 rw[Bool.eq_iff_iff,List.any_eq_true,List.any_eq_true];constructor
 ·rintro⟨b,hb,e⟩;have cy:=dI.mp hb;rw[mn needs cy.1] at e;rw[decide_eq_true ha,Bool.true_and,R.bit a b ha] at e;exact⟨b,List.contains_iff_mem.mp e,by rw[eY hm];exact cy.2⟩
 ·rintro⟨b,hb,e⟩;have cy:=List.contains_iff_mem.mpr hb;have aW:=F8 R ha cy;rw[eY hm] at e;refine⟨b,dI.mpr ⟨aW,e⟩,?_⟩;rw[mn needs aW,R.bit a b ha,cy];simp [ha]
def runM(needs:List Nat)(n:Nat):Nat->Nat->Nat
 |0,m=>m
 |k+1,m=>runM needs n k (dO needs n m)
def Fix(needs:List Nat)(n m:Nat):Prop:=dO needs n m=m
theorem fq(needs:List Nat)(n:Nat): ∀(k m:Nat),runM needs n (k+1) m=dO needs n (runM needs n k m)
 |0,_=>rfl
 |k+1,m=>fq needs n k (dO needs n m)
theorem jj{needs:List Nat}{n:Nat}(h: ∀m∈needs,m<2^n){m:Nat}(hm:m<2^n): ∀k,runM needs n k m<2^n
 |0=>hm
 |k+1=>by rw[fq];exact vI h (jj h hm k)
theorem Gp(needs:List Nat)(n:Nat): ∀(j k m:Nat),runM needs n (j+k) m=runM needs n k (runM needs n j m)
 |0,k,m=>by rw[Nat.zero_add];rfl
 |j+1,k,m=>by
  rw[Nat.succ_add_eq_add_succ];show runM needs n (j+(k+1)) m=_;rw[Gp needs n j (k+1) m,fq needs n j];rfl
theorem Fix.run{needs:List Nat}{n m:Nat}(h:Fix needs n m): ∀k,runM needs n k m=m
 |0=>rfl
 |k+1=>by rw[fq,h.run k];exact h
theorem Fix.later{needs:List Nat}{n m i:Nat}(h:Fix needs n (runM needs n i m)){k:Nat}(hk:i<=k):runM needs n k m=runM needs n i m:=by
 obtain⟨d,rfl⟩: ∃d,k=i+d:=⟨k-i,by omega⟩;rw[Gp,h.run]
theorem Fix.same{needs:List Nat}{n m i j:Nat}(h:Fix needs n (runM needs n i m))(h':Fix needs n (runM needs n j m)):runM needs n i m=runM needs n j m:=by
 by_cases Lz:i<=j
 ·exact(h.later Lz).symm
 ·exact h'.later (by omega)
def cnt(n m:Nat):Nat:=(bits n m).length
theorem jl(n m:Nat):cnt n m<=n:=by
 unfold cnt bits;exact Nat.le_trans (List.length_filter_le ..) (by rw[List.length_range];exact Nat.le_refl n)
theorem filter_le{α:Type}{p q:α->Bool}: ∀{l:List α},(∀x∈l,p x=true->q x=true)->(l.filter p).length<=(l.filter q).length
 |[],_=>Nat.le_refl _
 |a::l,h=>by
  have ih:=filter_le (p:=p) (q:=q) (l:=l) fun x hx=>h x (List.mem_cons_of_mem _ hx);have h0:=h a (List.mem_cons_self ..);rw[List.filter_cons,List.filter_cons];cases hp:p a with
  |true=>rw[h0 hp];simp;exact ih
  |false=>
   cases hq:q a with
   |true=>simp;omega
   |false=>simp;exact ih
theorem filter_lt{α:Type}{p q:α->Bool}: ∀{l:List α},(∀x∈l,p x=true->q x=true)->(∃x∈l,p x=false/\q x=true)->(l.filter p).length<(l.filter q).length
 |[],_,h=>by obtain⟨x,hx,_⟩:=h;simp at hx
 |a::l,h,hx=>by
  have h1: ∀x∈l,p x=true->q x=true:=fun x hx=>h x (List.mem_cons_of_mem _ hx);have h0:=h a (List.mem_cons_self ..);obtain⟨x,hm,e1,e2⟩:=hx;rw[List.filter_cons,List.filter_cons];rcases List.mem_cons.mp hm with e |hm
  ·subst e;rw[e1,e2];have:=filter_le h1;simp;omega
  ·have ih:=filter_lt h1 ⟨x,hm,e1,e2⟩;cases hp:p a with
   |true=>rw[h0 hp];simp;exact ih
   |false=>
    cases hq:q a with
    |true=>simp;omega
    |false=>simp;exact ih
theorem SV{n m k:Nat}(hm:m<2^n)(hk:k<2^n)(h: ∀i,m.testBit i=true->k.testBit i=true)(ne:k≠m):cnt n m<cnt n k:=by
 refine filter_lt (fun x _ e=>h x e) ?_
 by_cases q: ∃x,x∈List.range n/\m.testBit x=false/\k.testBit x=true
 ·exact q
 ·exfalso
  apply ne
  refine yD hk hm (Qb fun x hx=>?_);cases e1:m.testBit x with
  |true=>exact h x e1
  |false=>
   cases e2:k.testBit x with
   |false=>rfl
   |true=>exact absurd ⟨x,List.mem_range.mpr hx,e1,e2⟩ q
theorem Sd{needs:List Nat}{n m i:Nat}(h:m.testBit i=true):(dO needs n m).testBit i=true:=by
 unfold dO;rw[Nat.testBit_or,h,Bool.true_or]
theorem y4{needs:List Nat}{n m:Nat}(hl: ∀m∈needs,m<2^n)(hm:m<2^n)(h: ¬Fix needs n m):cnt n m<cnt n (dO needs n m):=
 SV hm (vI hl hm) (fun _ e=>Sd e) h
theorem HR{needs:List Nat}{n m:Nat}(hl: ∀m∈needs,m<2^n)(hm:m<2^n): ∀i,(∃j,j<i/\Fix needs n (runM needs n j m))∨i<=cnt n (runM needs n i m)
 |0=> .inr (Nat.zero_le _)
 |i+1=>by
  rcases HR hl hm i with⟨j,hj,f⟩ |h
  ·exact .inl ⟨j,by omega,f⟩
  ·by_cases f:Fix needs n (runM needs n i m)
   ·exact .inl ⟨i,by omega,f⟩
   ·refine .inr ?_;rw[fq];exact Nat.lt_of_le_of_lt h (y4 hl (jj hl hm i) f)
theorem Ra{needs:List Nat}{n m:Nat}(hl: ∀m∈needs,m<2^n)(hm:m<2^n):Fix needs n (runM needs n n m):=by
 rcases HR hl hm (n+1) with⟨j,hj,f⟩ |h
 ·have e:=f.later (show j<=n by omega);unfold Fix;rw[e];exact f
 ·have:=jl n (runM needs n (n+1) m);omega
theorem GV{g:Graph}{needs:List Nat}(R:cX g needs): ∀(k m:Nat),m<2^g.length->steps (stepOn g) k (bits g.length m)=bits g.length (runM needs g.length k m)
 |0,_,_=>rfl
 |k+1,m,hm=>by
  show steps (stepOn g) k (stepOn g (bits g.length m))=_;rw[PZ R hm,GV R k _ (vI R.low hm)];rfl
theorem yg{g:Graph}{needs:List Nat}(R:cX g needs): ∀(k m:Nat),m<2^g.length->steps (stepBack g) k (bits g.length m)=bits g.length (runM (flipped g.length needs) g.length k m)
 |0,_,_=>rfl
 |k+1,m,hm=>by
  show steps (stepBack g) k (stepBack g (bits g.length m))=_;rw[OF R hm,yg R k _ (vI (fo _ _) hm)];rfl
def fP(needs:List Nat)(n:Nat)(k:Option Nat)(i m:Nat):Prop:=k=some i∨((∀l,k=some l->i<=l)/\Fix needs n (runM needs n i m))
theorem fP.eq{needs:List Nat}{n:Nat}{k:Option Nat}{i m:Nat}(hl: ∀m∈needs,m<2^n)(hm:m<2^n)(h:fP needs n k i m):runM needs n (k.getD n) m=runM needs n i m:=by
 rcases h with rfl |⟨h1,f⟩
 ·rfl
 ·cases k with
  |none=>exact(Ra hl hm).same f
  |some l=>exact f.later (h1 l rfl)
theorem Eo{g:Graph}{needs:List Nat}(R:cX g needs){m i:Nat}{k:Option Nat}(hm:m<2^g.length)(h:fP needs g.length k i m):
  reached g k (bits g.length m)=bits g.length (runM needs g.length i m):=by
 unfold reached;rw[GV R _ _ hm,h.eq R.low hm]
theorem Oz{g:Graph}{needs:List Nat}(R:cX g needs){m i:Nat}{k:Option Nat}(hm:m<2^g.length)(h:fP (flipped g.length needs) g.length k i m):
  reaching g k (bits g.length m)=bits g.length (runM (flipped g.length needs) g.length i m):=by
 unfold reaching;rw[yg R _ _ hm,h.eq (fo _ _) hm]
section
variable(back:List Nat)(n t:Nat)
def lay:Nat->Nat
 |0=>t
 |i+1=>minus (nextM back (bits n (lay i))) (runM back n i t)
end
section
variable{back:List Nat}{n t:Nat}
theorem Ja(hl: ∀m∈back,m<2^n)(ht:t<2^n): ∀i,lay back n t i<2^n
 |0=>ht
 |_+1=>yO (F9 hl _) _
theorem Ox(p:Nat->Bool)(a b:Nat):(bits n (a ||| b)).any p=((bits n a).any p || (bits n b).any p):=by
 rw[rD,rD,rD,Bool.eq_iff_iff,Bool.or_eq_true,List.any_eq_true,List.any_eq_true,List.any_eq_true];constructor
 ·rintro⟨x,hx,e⟩;rw[Nat.testBit_or] at e;simp at e;rcases e.1 with q |q
  ·exact .inl ⟨x,hx,by simp [q,e.2]⟩
  ·exact .inr ⟨x,hx,by simp [q,e.2]⟩
 ·rintro(⟨x,hx,e⟩ |⟨x,hx,e⟩)
  ·exact⟨x,hx,by rw[Nat.testBit_or];simp at e;simp [e.1,e.2]⟩
  ·exact⟨x,hx,by rw[Nat.testBit_or];simp at e;simp [e.1,e.2]⟩
theorem RW(a b:Nat):nextM back (bits n (a ||| b))=nextM back (bits n a) ||| nextM back (bits n b):=by
 apply Nat.eq_of_testBit_eq
 intro i;rw[Nat.testBit_or,kZ,kZ,kZ,Ox]
theorem k9: ∀i,runM back n (i+1) t=runM back n i t ||| lay back n t (i+1)
 |0=>by
  show dO back n t=t ||| minus (nextM back (bits n t)) t
  apply Nat.eq_of_testBit_eq
  intro b;unfold dO;rw[Nat.testBit_or,Nat.testBit_or,gb];cases t.testBit b<;>simp
 |i+1=>by
  have ih:=k9 i;have e:runM back n (i+1+1) t=dO back n (runM back n (i+1) t):=fq ..;have e0:runM back n (i+1) t=dO back n (runM back n i t):=fq ..
  apply Nat.eq_of_testBit_eq
  intro b;rw[e];unfold dO;rw[Nat.testBit_or,Nat.testBit_or];show _=(_ || (minus (nextM back (bits n (lay back n t (i+1)))) (runM back n (i+1) t)).testBit b);rw[gb];have m8:(nextM back (bits n (runM back n i t))).testBit b=true->(runM back n (i+1) t).testBit b=true:=fun q=>by
   rw[e0];unfold dO;rw[Nat.testBit_or,q,Bool.or_true]
  have hn:(nextM back (bits n (runM back n (i+1) t))).testBit b=((nextM back (bits n (runM back n i t))).testBit b || (nextM back (bits n (lay back n t (i+1)))).testBit b):=by
   rw[ih,RW,Nat.testBit_or]
  rw[hn];cases e1:(runM back n (i+1) t).testBit b with
  |true=>simp
  |false=>
   cases e2:(nextM back (bits n (runM back n i t))).testBit b with
   |true=>
    rw[m8 e2] at e1;cases e1
   |false=>simp
theorem Qv: ∀i b,(lay back n t i).testBit b=true->(runM back n i t).testBit b=true
 |0,_,h=>h
 |i+1,b,h=>by rw[k9,Nat.testBit_or,h,Bool.or_true]
theorem Fc{i b:Nat}(h:(runM back n i t).testBit b=true): ∀k,(runM back n (i+k) t).testBit b=true
 |0=>h
 |k+1=>by
  show(runM back n (i+k+1) t).testBit b=true;rw[k9,Nat.testBit_or,Fc h k,Bool.true_or]
theorem Hy{i b:Nat}(h:(lay back n t (i+1)).testBit b=true):(runM back n i t).testBit b=false:=by
 have q:(minus (nextM back (bits n (lay back n t i))) (runM back n i t)).testBit b=true:=h;rw[gb] at q;simp at q;exact q.2
theorem RQ{i:Nat}(h:lay back n t (i+1)=0):Fix back n (runM back n i t):=by
 unfold Fix;rw[<-fq,k9,h,Nat.or_zero]
theorem q_{s:Nat}: ∀i,(∀j,j<i->lay back n t j&&&s=0)-> ∀b,s.testBit b=true-> ∀j,j<i->(runM back n j t).testBit b=false
 |i,h,b,hb,0,hj=>by
  have e:=congrArg (fun x=>Nat.testBit x b) (h 0 hj);simp [hb] at e;exact e
 |i,h,b,hb,j+1,hj=>by
  have e:=congrArg (fun x=>Nat.testBit x b) (h (j+1) hj);simp [hb] at e;rw[k9,Nat.testBit_or,e,q_ i h b hb j (by omega)];rfl
theorem Gj{s i:Nat}(h: ∀j,j<i->lay back n t j&&&s=0)(b:Nat):(s.testBit b&&(runM back n i t).testBit b)=(s&&&lay back n t i).testBit b:=by
 rw[Nat.testBit_and];cases hb:s.testBit b with
 |false=>rfl
 |true=>
  rw[Bool.true_and,Bool.true_and];cases i with
  |zero=>rfl
  |succ i=>
   rw[k9,Nat.testBit_or,q_ (i+1) h b hb i (by omega),Bool.false_or]
theorem rS(hl: ∀m∈back,m<2^n)(ht:t<2^n): ∀i,(∀j,j<=i->lay back n t j≠0)->i<cnt n (runM back n i t)
 |0,h=>by
  show 0<cnt n t;obtain⟨a,r,e,_⟩:=kY ht (h 0 (Nat.le_refl _));unfold cnt;rw[e];exact Nat.succ_pos _
 |i+1,h=>by
  have ih:=rS hl ht i fun j hj=>h j (by omega);rw[fq];refine Nat.lt_of_le_of_lt ih (y4 hl (jj hl ht i) fun f=>?_)
  apply h (i+1) (Nat.le_refl _)
  apply Nat.eq_of_testBit_eq
  intro b;cases q:(lay back n t (i+1)).testBit b with
  |false=>simp
  |true=>
   have e1:=Qv (i+1) b q;rw[fq,f,Hy q] at e1;cases e1
end
def low(n m:Nat):Nat:=(bits n m).headD 0
def fb(needs:List Nat)(n:Nat):List Nat->Nat->List Nat
 |[],_=>[]
 |l::r,s=>low n (s&&&l)::fb needs n r (needs.getD (low n (s&&&l)) 0)
def down(back:List Nat)(n t:Nat):Nat->List Nat
 |0=>[lay back n t 0]
 |i+1=>lay back n t (i+1)::down back n t i
theorem rF(back:List Nat)(n t:Nat): ∀i,((List.range (i+1)).map (lay back n t)).reverse=down back n t i
 |0=>rfl
 |i+1=>by
  rw[ya,List.map_append,List.reverse_append,rF back n t i];rfl
theorem yt(needs:List Nat)(n:Nat): ∀(l:List Nat)(s:Nat),(fb needs n l s).length=l.length
 |[],_=>rfl
 |_::r,_=>congrArg (· +1) (yt needs n r _)
theorem yF(back:List Nat)(n t:Nat): ∀i,(down back n t i).length=i+1
 |0=>rfl
 |i+1=>congrArg (· +1) (yF back n t i)
theorem Eh(f:Nodes->Nodes): ∀(k:Nat)(s:Nodes)(i:Nat),i<=k->(layers f k s)[i]? =some (steps f i s)
 |0,s,i,h=>by
  have:i=0:=Nat.le_zero.mp h;subst this;rfl
 |k+1,s,0,_=>rfl
 |k+1,s,i+1,h=>by
  show(layers f k (f s))[i]? =some (steps f i (f s));exact Eh f k (f s) i (by omega)
theorem qX(f:Nodes->Nodes): ∀(k:Nat)(s:Nodes),(layers f k s).length=k+1
 |0,_=>rfl
 |k+1,s=>congrArg (· +1) (qX f k (f s))
theorem NH{α:Type}{p:α->Bool}{l:List α}{i:Nat}{x:α}(h:l[i]? =some x)(hp:p x=true)(hb: ∀j y,j<i->l[j]? =some y->p y=false):l.findIdx? p=some i:=by
 rw[List.findIdx?_eq_some_iff_getElem];obtain⟨hi,e⟩:=List.getElem?_eq_some_iff.mp h;refine⟨hi,by rw[e];exact hp,fun j hj=>?_⟩;have:=hb j l[j] hj (List.getElem?_eq_getElem (by omega));simp [this]
theorem NG{α:Type}{p:α->Bool}{l:List α}(h: ∀(j:Nat) y,l[j]? =some y->p y=false):l.findIdx? p=none:=by
 rw[List.findIdx?_eq_none_iff];intro x hx;obtain⟨j,hj⟩:=List.getElem?_of_mem hx;exact h j x hj
section
variable{g:Graph}{needs:List Nat}{t:Nat}
abbrev bk(g:Graph)(needs:List Nat):List Nat:=flipped g.length needs
theorem rB(R:cX g needs)(ht:t<2^g.length){i:Nat}(h:i<=g.length):(rings g (bits g.length t))[i]? =some (bits g.length (runM (bk g needs) g.length i t)):=by
 unfold rings;rw[Eh _ _ _ _ h,yg R _ _ ht]
theorem PN:(rings g (bits g.length t)).length=g.length+1:=qX ..
theorem E5(R:cX g needs)(ht:t<2^g.length): ∀(i a:Nat),i<=g.length->a<g.length->(lay (bk g needs) g.length t i).testBit a=true->
  pathFrom g ((rings g (bits g.length t)).take i).reverse a=a::fb needs g.length ((down (bk g needs) g.length t i).tail) (needs.getD a 0)
 |0,a,_,_,_=>rfl
 |i+1,a,hi,ha,h=>by
  have hg:=rB R ht (show i<=g.length by omega);have eV:(rings g (bits g.length t)).take (i+1)=(rings g (bits g.length t)).take i++[bits g.length (runM (bk g needs) g.length i t)]:=by
   rw[List.take_add_one,hg];rfl
  rw[eV,List.reverse_append];show pathFrom g (bits g.length (runM (bk g needs) g.length i t)::((rings g (bits g.length t)).take i).reverse) a=_;have VE:=Hy h;have hN: ∀b,(needs.getD a 0).testBit b=true-> ∀j,j<i->(runM (bk g needs) g.length j t).testBit b=false:=fun b hb j hj=>by
   cases q:(runM (bk g needs) g.length j t).testBit b with
   |false=>rfl
   |true=>
    have aW:b<g.length:=by
     rw[R.bit a b ha] at hb;exact F8 R ha hb
    have e:(runM (bk g needs) g.length (j+1) t).testBit a=true:=by
     rw[fq];unfold dO;rw[Nat.testBit_or,kZ];have:(bits g.length (runM (bk g needs) g.length j t)).any (fun c=>((bk g needs).getD c 0).testBit a)=true:=by
      rw[List.any_eq_true];refine⟨b,dI.mpr ⟨aW,q⟩,?_⟩;rw[mn needs aW,decide_eq_true ha,hb];rfl
     rw[this,Bool.or_true]
    obtain⟨d,hd⟩: ∃d,i=j+1+d:=⟨i-(j+1),by omega⟩;have e2:=Fc e d;rw[<-hd,VE] at e2;cases e2
  have eJ: ∀b,((needs.getD a 0).testBit b&&(runM (bk g needs) g.length i t).testBit b)=(needs.getD a 0&&&lay (bk g needs) g.length t i).testBit b:=fun b=>by
   rw[Nat.testBit_and];cases hb:(needs.getD a 0).testBit b with
   |false=>rfl
   |true=>
    rw[Bool.true_and,Bool.true_and];cases i with
    |zero=>rfl
    |succ i=>rw[k9,Nat.testBit_or,hN b hb i (by omega),Bool.false_or]
  have vV:(those g fun b=>(needsOf g a).contains b).find? (fun b=>(bits g.length (runM (bk g needs) g.length i t)).contains b)=(bits g.length (needs.getD a 0&&&lay (bk g needs) g.length t i)).head?:=by
   have e1:(those g fun b=>(needsOf g a).contains b)=bits g.length (needs.getD a 0):=by
    unfold those allOf;exact mh _ _ _ fun b _=>R.bit a b ha
   rw[e1,ES]
   congr 1
   refine gO fun b _=>?_;rw[eY (jj (fo _ _) ht i)];exact eJ b
  have hex:(needs.getD a 0&&&lay (bk g needs) g.length t i)≠0:=fun z=>by
   have q:(minus (nextM (bk g needs) (bits g.length (lay (bk g needs) g.length t i))) (runM (bk g needs) g.length i t)).testBit a=true:=h;rw[gb,kZ] at q;have q1:=(Bool.and_eq_true_iff.mp q).1;rw[List.any_eq_true] at q1;obtain⟨b,hb,e⟩:=q1;have cy:=dI.mp hb;rw[mn needs cy.1,decide_eq_true ha,Bool.true_and] at e;have e2:=congrArg (fun x=>Nat.testBit x b) z;simp only [Nat.testBit_and,e,cy.2,Nat.zero_testBit] at e2;cases e2
  obtain⟨b,r,eb,hb,dR⟩:=kY (mH (pj R.low a) _) hex;have fR:low g.length (needs.getD a 0&&&lay (bk g needs) g.length t i)=b:=by
   unfold low;rw[eb];rfl
  rw[eb] at vV;unfold pathFrom;rw[vV];show a::pathFrom g ((rings g (bits g.length t)).take i).reverse b=a::fb needs g.length (down (bk g needs) g.length t i) (needs.getD a 0);have pZ:(lay (bk g needs) g.length t i).testBit b=true:=by
   rw[Nat.testBit_and] at dR;exact(Bool.and_eq_true_iff.mp dR).2
  rw[E5 R ht i b (by omega) hb pZ]
  congr 1
  cases i with
  |zero=>
   show b::fb needs g.length [] _=fb needs g.length [lay (bk g needs) g.length t 0] _;show _=low g.length (needs.getD a 0&&&lay (bk g needs) g.length t 0)::fb needs g.length [] _;rw[fR]
  |succ i=>
   show b::fb needs g.length (down (bk g needs) g.length t i) _=low g.length (needs.getD a 0&&&lay (bk g needs) g.length t (i+1))::fb needs g.length (down (bk g needs) g.length t i) _;rw[fR]
variable{s:Nat}
theorem x8(ht:t<2^g.length)(i:Nat):((bits g.length s).any fun a=>(bits g.length (runM (bk g needs) g.length i t)).contains a)=(bits g.length (s&&&runM (bk g needs) g.length i t)).any fun _=>true:=by
 rw[rD,rD];refine Hc fun x _=>?_;rw[eY (jj (fo _ _) ht i),Nat.testBit_and,Bool.and_true]
theorem Nm{n m:Nat}(h:m<2^n)(hm:m≠0):((bits n m).any fun _=>true)=true:=by
 obtain⟨a,r,e,_⟩:=kY h hm;rw[e];rfl
theorem yI(R:cX g needs)(ht:t<2^g.length)(hs:s<2^g.length){k:Nat}(hn: ∀j,j<=k->lay (bk g needs) g.length t j≠0)(h0: ∀j,j<k->lay (bk g needs) g.length t j&&&s=0)(h1:lay (bk g needs) g.length t k&&&s≠0):
  k<g.length/\((rings g (bits g.length t)).findIdx? fun l=>(bits g.length s).any fun a=>l.contains a)=some k:=by
 have hk:k<g.length:=Nat.lt_of_lt_of_le (rS (fo _ _) ht k hn) (jl _ _);refine⟨hk,NH (rB R ht (Nat.le_of_lt hk)) ?_ fun j y hj hy=>?_⟩
 ·rw[x8 ht];have e:s&&&runM (bk g needs) g.length k t=s&&&lay (bk g needs) g.length t k:=by
   apply Nat.eq_of_testBit_eq
   intro b;rw[<-Gj h0 b,Nat.testBit_and]
  rw[e];exact Nm (mH hs _) (by rw[Nat.and_comm];exact h1)
 ·rw[rB R ht (by omega)] at hy;cases hy;rw[x8 ht];have e:s&&&runM (bk g needs) g.length j t=0:=by
   apply Nat.eq_of_testBit_eq
   intro b;rw[Nat.testBit_and,Nat.zero_testBit];cases hb:s.testBit b with
   |false=>rfl
   |true=>rw[q_ k h0 b hb j hj];rfl
  rw[e,rf];rfl
theorem xK(R:cX g needs)(ht:t<2^g.length)(hs:s<2^g.length){k:Nat}(hn: ∀j,j<=k->lay (bk g needs) g.length t j≠0)(h0: ∀j,j<k->lay (bk g needs) g.length t j&&&s=0)(h1:lay (bk g needs) g.length t k&&&s≠0):
  chosen g (bits g.length s) (bits g.length t)=fb needs g.length (down (bk g needs) g.length t k) s:=by
 obtain⟨hk,Vx⟩:=yI R ht hs hn h0 h1;obtain⟨a,r,ea,ha,dR⟩:=kY (mH hs _) (show s&&&lay (bk g needs) g.length t k≠0 by rw[Nat.and_comm];exact h1);have fR:low g.length (s&&&lay (bk g needs) g.length t k)=a:=by
  unfold low;rw[ea];rfl
 have vV:((bits g.length s).find? fun a=>(((rings g (bits g.length t))[k]?).getD []).contains a)=some a:=by
  rw[rB R ht (Nat.le_of_lt hk),ES];have e:((List.range g.length).filter fun i=>s.testBit i&&(((some (bits g.length (runM (bk g needs) g.length k t)):Option Nodes).getD []).contains i))=bits g.length (s&&&lay (bk g needs) g.length t k):=by
   refine gO fun b _=>?_;show(s.testBit b&&(bits g.length (runM (bk g needs) g.length k t)).contains b)=_;rw[eY (jj (fo _ _) ht k)];exact Gj h0 b
  rw[e,ea];rfl
 unfold chosen;dsimp only;rw[Vx];dsimp only;rw[vV];dsimp only;have tE:(lay (bk g needs) g.length t k).testBit a=true:=by
  rw[Nat.testBit_and] at dR;exact(Bool.and_eq_true_iff.mp dR).2
 rw[E5 R ht k a (Nat.le_of_lt hk) ha tE];cases k with
 |zero=>
  show _=low g.length (s&&&lay (bk g needs) g.length t 0)::fb needs g.length [] _;rw[fR];rfl
 |succ i=>
  show _=low g.length (s&&&lay (bk g needs) g.length t (i+1))::fb needs g.length (down (bk g needs) g.length t i) _;rw[fR];rfl
theorem FY(R:cX g needs)(ht:t<2^g.length){k:Nat}(h0: ∀j,j<k->lay (bk g needs) g.length t j&&&s=0)(h1:lay (bk g needs) g.length t k=0):
  ((rings g (bits g.length t)).findIdx? fun l=>(bits g.length s).any fun a=>l.contains a)=none:=by
 refine NG fun j y hy=>?_;have hj:j<(rings g (bits g.length t)).length:=(List.getElem?_eq_some_iff.mp hy).1;rw[PN] at hj;rw[rB R ht (by omega)] at hy;cases hy;rw[x8 ht];have Ln: ∀j,j<k+1->lay (bk g needs) g.length t j&&&s=0:=fun i hi=>by
  by_cases e:i=k
  ·rw[e,h1,Nat.zero_and]
  ·exact h0 i (by omega)
 have e:s&&&runM (bk g needs) g.length j t=0:=by
  apply Nat.eq_of_testBit_eq
  intro b;rw[Nat.testBit_and,Nat.zero_testBit];cases hb:s.testBit b with
  |false=>rfl
  |true=>
   rw[Bool.true_and]
   by_cases hjk:j<k+1
   ·exact q_ (k+1) Ln b hb j hjk
   ·cases k with
    |zero=>
     have ez:t=0:=h1;have f:Fix (bk g needs) g.length (runM (bk g needs) g.length 0 t):=by
      show dO (bk g needs) g.length t=t;rw[ez];unfold dO;rw[rf];simp [nextM]
     rw[f.later (Nat.zero_le j)];show t.testBit b=false;rw[ez,Nat.zero_testBit]
    |succ i=>
     have f:=RQ h1;rw[f.later (show i<=j by omega)];exact q_ (i+1+1) Ln b hb i (by omega)
 rw[e,rf];rfl
theorem xJ(R:cX g needs)(ht:t<2^g.length){k:Nat}(h0: ∀j,j<k->lay (bk g needs) g.length t j&&&s=0)(h1:lay (bk g needs) g.length t k=0):
  chosen g (bits g.length s) (bits g.length t)=[]:=by
 unfold chosen;dsimp only;rw[FY R ht h0 h1]
theorem N5(g:Graph)(a:Nat)(t:Nodes):distance g a t=(rings g t).findIdx? fun l=>([a]:List Nat).any fun x=>l.contains x:=by
 unfold distance
 congr 1
 funext l
 simp
end
def rest(whole:Nat)(t:Text):Except Fault (List Tok):=cutIn whole (t.length+1) t
theorem DF{α:Type}(f:α->Bool): ∀l:List α,(l.takeWhile f).length<=l.length
 |[]=>Nat.le_refl _
 |a::l=>by
  rw[List.takeWhile_cons]
  split
  ·exact Nat.succ_le_succ (DF f l)
  ·exact Nat.zero_le _
theorem Dj{α:Type}{f:α->Bool}{a:α}(l:List α)(h:f a=true):1<=((a::l).takeWhile f).length:=by
 rw[List.takeWhile_cons,if_pos h];exact Nat.succ_pos _
theorem yE(whole:Nat): ∀(k n m:Nat)(t:Text),t.length<=k->t.length<n->t.length<m->cutIn whole n t=cutIn whole m t
 |0,n,m,t,h,hn,hm=>by
  have:t=[]:=List.length_eq_zero_iff.mp (Nat.le_zero.mp h);subst this;cases n with
  |zero=>exact absurd hn (Nat.not_lt_zero _)
  |succ n=>
   cases m with
   |zero=>exact absurd hm (Nat.not_lt_zero _)
   |succ m=>rfl
 |k+1,n,m,[],h,hn,hm=>yE whole k n m [] (Nat.zero_le _) hn hm
 |k+1,n,m,c::r,h,hn,hm=>by
  cases n with
  |zero=>exact absurd hn (Nat.not_lt_zero _)
  |succ n=>
   cases m with
   |zero=>exact absurd hm (Nat.not_lt_zero _)
   |succ m=>
    have hk:r.length<=k:=Nat.le_of_succ_le_succ h;have LH:r.length<n:=Nat.lt_of_succ_lt_succ hn;have LG:r.length<m:=Nat.lt_of_succ_lt_succ hm;have ih: ∀s:Text,s.length<=r.length->cutIn whole n s=cutIn whole m s:=fun s hs=>yE whole k n m s (by omega) (by omega) (by omega);have hd: ∀(f:Nat->Bool),f c=true->((c::r).drop ((c::r).takeWhile f).length).length<=r.length:=fun f hf=>by
     rw[List.length_drop];have:=Dj (f:=f) r hf;have e:(c::r).length=r.length+1:=rfl;omega
    have fh: ∀j,(r.drop j).length<=r.length:=fun j=>by rw[List.length_drop];omega
    unfold cutIn;dsimp only
    by_cases b1:blank c=true
    ·rw[if_pos b1,if_pos b1,ih r (Nat.le_refl _)]
    ·rw[if_neg b1,if_neg b1]
     by_cases b2:small c=true
     ·rw[if_pos b2,if_pos b2,ih _ (hd small b2)]
     ·rw[if_neg b2,if_neg b2]
      by_cases b3:digit c=true
      ·rw[if_pos b3,if_pos b3,ih _ (hd digit b3)]
      ·rw[if_neg b3,if_neg b3,ih _ (fh _),ih _ (fh _),ih r (Nat.le_refl _)]
theorem oV{whole n:Nat}{t:Text}(h:t.length<n):cutIn whole n t=rest whole t:=yE whole t.length n (t.length+1) t (Nat.le_refl _) h (Nat.lt_succ_self _)
theorem yS(whole:Nat):rest whole []= .ok [{kind:=0,text:=[],place:=whole}]:=rfl
theorem Ep{whole c:Nat}{r:Text}(h:blank c=true):rest whole (c::r)=rest whole r:=by
 show cutIn whole ((c::r).length+1) (c::r)=_
 conv=>lhs;unfold cutIn
 dsimp only;rw[if_pos h,oV (by show r.length<r.length+1;omega)]
def runEnd(f:Nat->Bool)(t:Text)(i:Nat):Nat:=i+((t.drop i).takeWhile f).length
def bX(t:Text)(i j:Nat):Text:=(t.drop i).take (j-i)
theorem k_(f:Nat->Bool)(t:Text)(i:Nat):i<=runEnd f t i:=Nat.le_add_right ..
theorem rC(f:Nat->Bool){t:Text}{i:Nat}(h:i<=t.length):runEnd f t i<=t.length:=by
 unfold runEnd;have:=DF f (t.drop i);rw[List.length_drop] at this;omega
theorem CV{α:Type}(f:α->Bool): ∀l:List α,l.take (l.takeWhile f).length=l.takeWhile f
 |[]=>rfl
 |a::l=>by
  rw[List.takeWhile_cons]
  split
  ·show a::l.take (l.takeWhile f).length=_;rw[CV f l]
  ·rfl
theorem rq(f:Nat->Bool)(t:Text)(i:Nat):bX t i (runEnd f t i)=(t.drop i).takeWhile f:=by
 unfold bX runEnd;rw[Nat.add_sub_cancel_left,CV]
theorem vB(f:Nat->Bool)(t:Text)(i:Nat):((t.drop i).takeWhile f).length=runEnd f t i-i:=by
 unfold runEnd;omega
theorem yG(f:Nat->Bool)(t:Text)(i:Nat):(t.drop i).drop ((t.drop i).takeWhile f).length=t.drop (runEnd f t i):=by
 rw[List.drop_drop];rfl
theorem PQ{f:Nat->Bool}{t:Text}{i j:Nat}(Lz:i<=j)(hj:j<=t.length)(h1: ∀k c,i<=k->k<j->t[k]? =some c->f c=true)(h2: ∀c,t[j]? =some c->f c=false):runEnd f t i=j:=by
 have sY: ∀(d:Nat)(l:Text),d<=l.length->(∀k c,k<d->l[k]? =some c->f c=true)->(∀c,l[d]? =some c->f c=false)->(l.takeWhile f).length=d:=by
  intro d
  induction d with
  |zero=>
   intro l _ _ h;cases l with
   |nil=>rfl
   |cons a l=>rw[List.takeWhile_cons,if_neg (by rw[h a rfl];exact Bool.false_ne_true)];rfl
  |succ d ih=>
   intro l hl g1 g2;cases l with
   |nil=>exact absurd hl (Nat.not_succ_le_zero _)
   |cons a l=>
    rw[List.takeWhile_cons,if_pos (g1 0 a (Nat.succ_pos _) rfl)];show(l.takeWhile f).length+1=d+1;rw[ih l (Nat.le_of_succ_le_succ hl) (fun k c hk e=>g1 (k+1) c (by omega) e) (fun c e=>g2 c e)]
 have hg: ∀k:Nat,(t.drop i)[k]? =t[i+k]? :=fun k=>List.getElem?_drop;unfold runEnd;rw[sY (j-i) (t.drop i) (by rw[List.length_drop];omega) (fun k c hk e=>h1 (i+k) c (by omega) (by omega) (by rw[<-hg];exact e)) (fun c e=>h2 c (by rw[hg] at e;rw[<-e];congr 1;omega))];omega
theorem uP{f:Nat->Bool}{t:Text}{i k c:Nat}(h1:i<=k)(h2:k<runEnd f t i)(e:t[k]? =some c):f c=true:=by
 have sY: ∀(l:Text)(k c:Nat),k<(l.takeWhile f).length->l[k]? =some c->f c=true:=by
  intro l
  induction l with
  |nil=>intro k c h;exact absurd h (Nat.not_lt_zero _)
  |cons a l ih=>
   intro k c h e;rw[List.takeWhile_cons] at h
   by_cases hf:f a=true
   ·rw[if_pos hf] at h;cases k with
    |zero=>cases e;exact hf
    |succ k=>exact ih k c (Nat.lt_of_succ_lt_succ h) e
   ·rw[if_neg hf] at h;exact absurd h (Nat.not_lt_zero _)
 have hg:(t.drop i)[k-i]? =t[i+(k-i)]? :=List.getElem?_drop;refine sY (t.drop i) (k-i) c (by unfold runEnd at h2;omega) ?_;rw[hg,<-e]
 congr 1
 omega
theorem uI{f:Nat->Bool}{t:Text}{i c:Nat}(e:t[runEnd f t i]? =some c):f c=false:=by
 have sY: ∀(l:Text)(c:Nat),l[(l.takeWhile f).length]? =some c->f c=false:=by
  intro l
  induction l with
  |nil=>intro c h;cases h
  |cons a l ih=>
   intro c h;rw[List.takeWhile_cons] at h
   by_cases hf:f a=true
   ·rw[if_pos hf] at h;exact ih c h
   ·rw[if_neg hf] at h;cases h;exact Bool.eq_false_iff.mpr hf
 have hg:(t.drop i)[((t.drop i).takeWhile f).length]? =t[i+((t.drop i).takeWhile f).length]? :=List.getElem?_drop;exact sY (t.drop i) c (hg.trans e)
def lI(t:Text)(p:Nat)(c:Nat):Option (Nat×Text×Nat):=
 if small c then(if 16<runEnd small t p-p then none else some (1,bX t p (runEnd small t p),runEnd small t p))
 else if digit c then(if 2<runEnd digit t p-p∨(c=48/\1<runEnd digit t p-p) then none else some (2,bX t p (runEnd digit t p),runEnd digit t p))
 else if c=36 then(if runEnd small t (p+1)=p+1∨16<runEnd small t (p+1)-(p+1) then none else some (4,bX t (p+1) (runEnd small t (p+1)),runEnd small t (p+1)))
 else if c=34 then(if runEnd nameByte t (p+1)=p+1∨40<runEnd nameByte t (p+1)-(p+1)∨t[runEnd nameByte t (p+1)]? ≠some 34 then none else some (3,bX t (p+1) (runEnd nameByte t (p+1)),runEnd nameByte t (p+1)+1))
 else if signs.contains c then some (5,[c],p+1) else none
theorem drop_cons{t:Text}{p c:Nat}(h:t[p]? =some c):t.drop p=c::t.drop (p+1):=by
 obtain⟨hp,e⟩:=List.getElem?_eq_some_iff.mp h;rw[List.drop_eq_getElem_cons hp,e]
theorem Gi{t:Text}{p c:Nat}(h:t[p]? =some c)(hb:blank c=false):
  rest t.length (t.drop p)=match lI t p c with
   |none=> .error {kind:=2,place:=p}
   |some (k,w,e)=>put k w p (rest t.length (t.drop e)):=by
 have hp:p<t.length:=(List.getElem?_eq_some_iff.mp h).1;have hc:=drop_cons h;have bH:(t.drop (p+1)).length=t.length-(p+1):=List.length_drop;have cz:t.length-((t.drop (p+1)).length+1)=p:=by omega
 have Ad: ∀f:Nat->Bool,f c=true->((c::t.drop (p+1)).takeWhile f)=bX t p (runEnd f t p)/\((c::t.drop (p+1)).takeWhile f).length=runEnd f t p-p/\
   (c::t.drop (p+1)).drop ((c::t.drop (p+1)).takeWhile f).length=t.drop (runEnd f t p):=fun f hf=>by
  rw[<-hc];exact⟨(rq f t p).symm,vB f t p,yG f t p⟩
 have Ly: ∀(f:Nat->Bool),f c=true->(t.drop (runEnd f t p)).length<(c::t.drop (p+1)).length:=fun f hf=>by
  have h1:=Dj (f:=f) (t.drop (p+1)) hf;have h2:=(Ad f hf).2.1;rw[List.length_drop];show _<(t.drop (p+1)).length+1;omega
 rw[hc];show cutIn t.length ((c::t.drop (p+1)).length+1) (c::t.drop (p+1))=_
 conv=>lhs;unfold cutIn
 dsimp only;rw[cz,if_neg (by rw[hb];exact Bool.false_ne_true)];unfold lI
 by_cases b2:small c=true
 ·rw[if_pos b2,if_pos b2];obtain⟨e1,e2,e3⟩:=Ad small b2;rw[e3,e2,e1,oV (Ly small b2)]
  by_cases z:16<runEnd small t p-p
  ·rw[if_pos z,if_pos z]
  ·rw[if_neg z,if_neg z]
 ·rw[if_neg b2,if_neg b2]
  by_cases b3:digit c=true
  ·rw[if_pos b3,if_pos b3];obtain⟨e1,e2,e3⟩:=Ad digit b3;rw[e3,e2,e1,oV (Ly digit b3)]
   by_cases z:2<runEnd digit t p-p∨(c=48/\1<runEnd digit t p-p)
   ·rw[if_pos z,if_pos z]
   ·rw[if_neg z,if_neg z]
  ·rw[if_neg b3,if_neg b3]
   by_cases b4:c=36
   ·rw[if_pos b4,if_pos b4,yG,<-rq small t (p+1)];have hl:(bX t (p+1) (runEnd small t (p+1))).length=runEnd small t (p+1)-(p+1):=by rw[rq,vB]
    have he:(bX t (p+1) (runEnd small t (p+1))).isEmpty=true↔runEnd small t (p+1)=p+1:=by
     rw[List.isEmpty_iff_length_eq_zero,hl];have:=k_ small t (p+1);omega
    rw[hl,oV (by
     rw[List.length_drop];have:=k_ small t (p+1);show _<(t.drop (p+1)).length+1;omega)]
    by_cases z:runEnd small t (p+1)=p+1∨16<runEnd small t (p+1)-(p+1)
    ·rw[if_pos (z.imp he.mpr id),if_pos z]
    ·rw[if_neg fun y=>z (y.imp he.mp id),if_neg z]
   ·rw[if_neg b4,if_neg b4]
    by_cases b5:c=34
    ·have W6:=k_ nameByte t (p+1);have hl:((t.drop (p+1)).takeWhile nameByte).length=runEnd nameByte t (p+1)-(p+1):=vB ..;have dY:(t.drop (p+1)).drop ((t.drop (p+1)).takeWhile nameByte).length=t.drop (runEnd nameByte t (p+1)):=yG ..;have fh:(t.drop (p+1)).drop (((t.drop (p+1)).takeWhile nameByte).length+1)=t.drop (runEnd nameByte t (p+1)+1):=by
      rw[<-List.drop_drop,dY,List.drop_drop]
     have hh:(t.drop (runEnd nameByte t (p+1))).head?=t[runEnd nameByte t (p+1)]? :=List.head?_drop;rw[if_pos b5,if_pos b5,fh,dY,hh,<-rq nameByte t (p+1)];have wU:(bX t (p+1) (runEnd nameByte t (p+1))).length=runEnd nameByte t (p+1)-(p+1):=by rw[rq,vB]
     have he:(bX t (p+1) (runEnd nameByte t (p+1))).isEmpty=true↔runEnd nameByte t (p+1)=p+1:=by
      rw[List.isEmpty_iff_length_eq_zero,wU];omega
     rw[wU,oV (by
      rw[List.length_drop];show _<(t.drop (p+1)).length+1;omega)]
     by_cases z:runEnd nameByte t (p+1)=p+1∨40<runEnd nameByte t (p+1)-(p+1)∨t[runEnd nameByte t (p+1)]? ≠some 34
     ·rw[if_pos (z.imp he.mpr id),if_pos z]
     ·rw[if_neg fun y=>z (y.imp he.mp id),if_neg z]
    ·rw[if_neg b5,if_neg b5]
     by_cases b6:signs.contains c=true
     ·rw[if_pos b6,if_pos b6,oV (by show _<(t.drop (p+1)).length+1;omega)]
     ·rw[if_neg b6,if_neg b6]
theorem FV(t:Text):cut t=rest t.length (t.drop 0):=rfl
end Bq
set_option linter.unusedVariables false
namespace Bq
open Vabldl
theorem kL{A B C:Type}(g:Got A)(f:A->List Tok->Got B)(h:B->List Tok->Got C):andThen (andThen g f) h=andThen g fun x r=>andThen (f x r) h:=by
 cases g<;>rfl
theorem jI{A B:Type}(s:String)(ts:List Tok)(f:List Tok->Got A)(h:A->List Tok->Got B):andThen (sign s ts f) h=sign s ts fun r=>andThen (f r) h:=by
 unfold sign
 split<;>rfl
theorem mf{A B:Type}(ts:List Tok)(f:Text->List Tok->Got A)(h:A->List Tok->Got B):andThen (quoted ts f) h=quoted ts fun t r=>andThen (f t r) h:=by
 unfold quoted
 split<;>rfl
theorem kT{A B:Type}(a:A)(r:List Tok)(h:A->List Tok->Got B):andThen (.ok (a,r)) h=h a r:=rfl
def ej:Nat->List Tok->Got (List Text)
 |0,ts=> .ok ([],ts)
 |k+1,ts=>quoted ts fun t b=>sign "," b fun c=>andThen (ej k c) fun l d=> .ok (t::l,d)
def iL(sub:Sub)(vs:List Text):Nat->List Tok->Got (List Query)
 |0,ts=>andThen (sub vs ts) fun x b=> .ok ([x],b)
 |k+1,ts=>andThen (sub vs ts) fun x b=>sign "," b fun c=>andThen (iL sub vs k c) fun l d=> .ok (x::l,d)
def jU(qo:Bool)(ts:List Tok):Got (Option Nat):=
 if qo=true/\isSign "," ts=true then(if(next (ts.drop 1)).kind=2 then .ok (some (valueOf (next (ts.drop 1)).text),ts.drop 2) else wrong (ts.drop 1)) else .ok (none,ts)
def fv(sub:Sub)(vs:List Text)(nT nE:Nat)(qo:Bool)(ts:List Tok)(f:List Text->List Query->Option Nat->Query):Got Query:=
 sign "(" ts fun a=>andThen (ej nT a) fun tx b=>andThen (iL sub vs nE b) fun xs c=>andThen (jU qo c) fun n d=>sign ")" d fun e=> .ok (f tx xs n,e)
theorem Eb(ts:List Tok)(f:Option Nat->Query):bounded ts f=andThen (jU true ts) fun n d=>sign ")" d fun e=> .ok (f n,e):=by
 unfold bounded jU
 by_cases h:isSign "," ts=true
 ·rw[if_pos h,if_pos (show true=true/\isSign "," ts=true from⟨rfl,h⟩)]
  by_cases k:(next (ts.drop 1)).kind=2
  ·rw[if_pos k,if_pos k];rfl
  ·rw[if_neg k,if_neg k];rfl
 ·rw[if_neg h,if_neg (show ¬(true=true/\isSign "," ts=true) from fun x=>h x.2)];rfl
def ft(w:String)(tx:List Text)(xs:List Query)(n:Option Nat):Query:=
 let a:=xs.headD .all
 let b:=(xs.drop 1).headD .all
 if w="deps" then .deps a n
 else if w="needers" then .needers a b n
 else if w="somepath" then .somepath a b
 else if w="allpaths" then .allpaths a b
 else if w="kind" then .kind (tx.headD []) a
 else if w="filter" then .filter (tx.headD []) a
 else if w="mark" then .mark (tx.headD []) ((tx.drop 1).headD []) a
 else if w="leaves" then .leaves a
 else if w="roots" then .roots a
 else .first a
theorem uz(ts:List Tok):jU false ts= .ok (none,ts):=by
 unfold jU;rw[if_neg fun x=>Bool.false_ne_true x.1]
theorem zk(sub:Sub)(vs:List Text)(ts:List Tok)(f:Query->Query):one sub vs ts f=fv sub vs 0 0 false ts fun _ xs _=>f (xs.headD .all):=by
 simp only [one,fv,ej,iL,kT,kL,jI,mf,uz,List.headD_cons]
theorem JG(sub:Sub)(vs:List Text)(ts:List Tok)(f:Query->Query->Query):two sub vs ts f=fv sub vs 0 1 false ts fun _ xs _=>f (xs.headD .all) ((xs.drop 1).headD .all):=by
 simp only [two,fv,ej,iL,kT,kL,jI,mf,uz,List.headD_cons,List.drop_succ_cons,List.drop_zero]
theorem EE(sub:Sub)(vs:List Text)(ts:List Tok)(f:Text->Query->Query):textOne sub vs ts f=fv sub vs 1 0 false ts fun tx xs _=>f (tx.headD []) (xs.headD .all):=by
 simp only [textOne,fv,ej,iL,kT,kL,jI,mf,uz,List.headD_cons]
theorem RE(sub:Sub)(vs:List Text)(r:List Tok):(sign "(" r fun a=>andThen (sub vs a) fun x b=>bounded b fun n=> .deps x n)=fv sub vs 0 0 true r fun _ xs n=> .deps (xs.headD .all) n:=by
 simp only [fv,ej,iL,kT,kL,jI,mf,Eb,List.headD_cons]
theorem O0(sub:Sub)(vs:List Text)(r:List Tok):
  (sign "(" r fun a=>andThen (sub vs a) fun u b=>sign "," b fun c=>andThen (sub vs c) fun x d=>bounded d fun n=> .needers u x n)=fv sub vs 0 1 true r fun _ xs n=> .needers (xs.headD .all) ((xs.drop 1).headD .all) n:=by
 simp only [fv,ej,iL,kT,kL,jI,mf,Eb,List.headD_cons,List.drop_succ_cons,List.drop_zero]
theorem RS(sub:Sub)(vs:List Text)(r:List Tok):
  (sign "(" r fun a=>quoted a fun m b=>sign "," b fun c=>quoted c fun t d=>sign "," d fun e=>andThen (sub vs e) fun x g=>sign ")" g fun h=> .ok (.mark m t x,h))=
   fv sub vs 2 0 false r fun tx xs _=> .mark (tx.headD []) ((tx.drop 1).headD []) (xs.headD .all):=by
 simp only [fv,ej,iL,kT,kL,jI,mf,uz,List.headD_cons,List.drop_succ_cons,List.drop_zero]
def shapeOf(w:String):Nat×Nat×Bool:=
 if w="deps" then(0,0,true) else if w="needers" then(0,1,true) else if w="somepath" then(0,1,false) else if w="allpaths" then(0,1,false)
 else if w="kind" then(1,0,false) else if w="filter" then(1,0,false) else if w="mark" then(2,0,false) else(0,0,false)
def cD:List String:=["deps","needers","somepath","allpaths","kind","filter","mark","leaves","roots","first"]
def qV(sub:Sub)(vs:List Text)(w:String)(ts:List Tok):Got Query:=fv sub vs (shapeOf w).1 (shapeOf w).2.1 (shapeOf w).2.2 ts (ft w)
theorem DH{sub:Sub}{vs:List Text}{ts:List Tok}(h:isWord "all" ts=true):wordTerm sub vs ts= .ok (.all,ts.drop 1):=by
 unfold wordTerm;dsimp only;rw[if_pos h]
theorem jd{s:String}{ts:List Tok}:isWord s ts=true↔(next ts).kind=1/\(next ts).text=str s:=by
 unfold isWord;rw[Bool.and_eq_true,beq_iff_eq,beq_iff_eq]
theorem gP{s:String}{ts:List Tok}:isSign s ts=true↔(next ts).kind=5/\(next ts).text=str s:=by
 unfold isSign;rw[Bool.and_eq_true,beq_iff_eq,beq_iff_eq]
theorem QM{s w:String}{ts:List Tok}(h:(next ts).text=str w)(ne:str w≠str s): ¬isWord s ts=true:=fun q=>ne (h.symm.trans (jd.mp q).2)
theorem Dk{sub:Sub}{vs:List Text}{ts:List Tok}{w:String}(hw:w∈cD)(hk:(next ts).kind=1)(ht:(next ts).text=str w):wordTerm sub vs ts=qV sub vs w (ts.drop 1):=by
 simp only [cD,List.mem_cons,List.not_mem_nil,or_false] at hw;have yes:isWord w ts=true:=jd.mpr ⟨hk,ht⟩;have no: ∀s:String,str w≠str s-> ¬isWord s ts=true:=fun s=>QM ht;unfold wordTerm;dsimp only;rcases hw with rfl |rfl |rfl |rfl |rfl |rfl |rfl |rfl |rfl |rfl
 ·rw[if_neg (no _ (by decide)),if_pos yes];exact RE ..
 ·rw[if_neg (no _ (by decide)),if_neg (no _ (by decide)),if_pos yes];exact O0 ..
 ·rw[if_neg (no _ (by decide)),if_neg (no _ (by decide)),if_neg (no _ (by decide)),if_pos yes];exact JG ..
 ·rw[if_neg (no _ (by decide)),if_neg (no _ (by decide)),if_neg (no _ (by decide)),if_neg (no _ (by decide)),if_pos yes];exact JG ..
 ·rw[if_neg (no _ (by decide)),if_neg (no _ (by decide)),if_neg (no _ (by decide)),if_neg (no _ (by decide)),if_neg (no _ (by decide)),if_pos yes];exact EE ..
 ·rw[if_neg (no _ (by decide)),if_neg (no _ (by decide)),if_neg (no _ (by decide)),if_neg (no _ (by decide)),if_neg (no _ (by decide)),if_neg (no _ (by decide)),if_pos yes];exact EE ..
 ·rw[if_neg (no _ (by decide)),if_neg (no _ (by decide)),if_neg (no _ (by decide)),if_neg (no _ (by decide)),if_neg (no _ (by decide)),if_neg (no _ (by decide)),if_neg (no _ (by decide)),if_pos yes];exact RS ..
 ·rw[if_neg (no _ (by decide)),if_neg (no _ (by decide)),if_neg (no _ (by decide)),if_neg (no _ (by decide)),if_neg (no _ (by decide)),if_neg (no _ (by decide)),if_neg (no _ (by decide)),if_neg (no _ (by decide)),if_pos yes];exact zk ..
 ·rw[if_neg (no _ (by decide)),if_neg (no _ (by decide)),if_neg (no _ (by decide)),if_neg (no _ (by decide)),if_neg (no _ (by decide)),if_neg (no _ (by decide)),if_neg (no _ (by decide)),if_neg (no _ (by decide)),if_neg (no _ (by decide)),if_pos yes];exact zk ..
 ·rw[if_neg (no _ (by decide)),if_neg (no _ (by decide)),if_neg (no _ (by decide)),if_neg (no _ (by decide)),if_neg (no _ (by decide)),if_neg (no _ (by decide)),if_neg (no _ (by decide)),if_neg (no _ (by decide)),if_neg (no _ (by decide)),if_neg (no _ (by decide)),if_pos yes];exact zk ..
theorem CW{sub:Sub}{vs:List Text}{ts:List Tok}(h0:(next ts).text≠str "all")(h: ∀w∈cD,(next ts).text≠str w):wordTerm sub vs ts=wrong ts:=by
 have no: ∀s:String,(next ts).text≠str s-> ¬isWord s ts=true:=fun s hs q=>hs (jd.mp q).2;unfold wordTerm;dsimp only;rw[if_neg (no _ h0)];rw[if_neg (no _ (h _ (by decide))),if_neg (no _ (h _ (by decide))),if_neg (no _ (h _ (by decide))),if_neg (no _ (h _ (by decide))),if_neg (no _ (h _ (by decide))),if_neg (no _ (h _ (by decide))),if_neg (no _ (h _ (by decide))),if_neg (no _ (h _ (by decide))),if_neg (no _ (h _ (by decide))),if_neg (no _ (h _ (by decide)))]
section
variable{g:Graph}{needs:List Nat}{m k:Nat}
theorem DI{m:Nat}(h: ∀b,m.testBit b=false):m=0:=Nat.eq_of_testBit_eq fun b=>by rw[h b,Nat.zero_testBit]
theorem DJ{m:Nat}(h:m=0)(b:Nat):m.testBit b=false:=by rw[h,Nat.zero_testBit]
theorem Qx(R:cX g needs)(hm:m<2^g.length){a:Nat}(ha:a<g.length):
  ((needsOf g a).all fun b=>b==a || !(bits g.length m).contains b)=decide (minus (needs.getD a 0&&&m) (2^a)=0):=by
 rw[Bool.eq_iff_iff,List.all_eq_true,decide_eq_true_iff];constructor
 ·intro h;refine DI fun b=>?_;rw[gb,Nat.testBit_and,lq,R.bit a b ha];cases e:(needsOf g a).contains b with
  |false=>rfl
  |true=>
   have q:=h b (List.contains_iff_mem.mp e);rw[eY hm] at q
   by_cases z:a=b
   ·simp [z]
   ·have z':(b==a)=false:=beq_eq_false_iff_ne.mpr fun y=>z y.symm;rw[z',Bool.false_or] at q;simp at q;simp [q]
 ·intro h b hb;have q:=DJ h b;rw[gb,Nat.testBit_and,lq,R.bit a b ha,List.contains_iff_mem.mpr hb,Bool.true_and] at q;rw[eY hm]
  by_cases z:a=b
  ·simp [z]
  ·rw[decide_eq_false z] at q;simp at q;simp [q]
theorem Po(R:cX g needs)(hm:m<2^g.length):
  leavesOf g (bits g.length m)=(bits g.length m).filter fun a=>decide (minus (needs.getD a 0&&&m) (2^a)=0):=by
 unfold leavesOf;exact gO fun a ha=>Qx R hm (dI.mp ha).1
theorem Q9(R:cX g needs){b:Nat}(hb:b<g.length):
  ((bits g.length m).all fun a=>a==b || !(needsOf g a).contains b)=decide (minus ((flipped g.length needs).getD b 0&&&m) (2^b)=0):=by
 rw[Bool.eq_iff_iff,List.all_eq_true,decide_eq_true_iff];constructor
 ·intro h;refine DI fun a=>?_;rw[gb,Nat.testBit_and,lq,mn needs hb]
  by_cases ha:a<g.length
  ·rw[R.bit a b ha];cases e:m.testBit a with
   |false=>simp
   |true=>
    have q:=h a (dI.mpr ⟨ha,e⟩)
    by_cases z:b=a
    ·simp [z]
    ·have z':(a==b)=false:=beq_eq_false_iff_ne.mpr fun y=>z y.symm;rw[z',Bool.false_or] at q;simp at q;simp [q]
  ·simp [ha]
 ·intro h a ha;have AE:=dI.mp ha;have q:=DJ h a;rw[gb,Nat.testBit_and,lq,mn needs hb,R.bit a b AE.1,AE.2,decide_eq_true AE.1] at q
  by_cases z:b=a
  ·simp [z]
  ·rw[decide_eq_false z] at q;simp at q;simp [q]
theorem Q_(R:cX g needs):
  rootsOf g (bits g.length m)=(bits g.length m).filter fun b=>decide (minus ((flipped g.length needs).getD b 0&&&m) (2^b)=0):=by
 unfold rootsOf;exact gO fun b hb=>Q9 R (dI.mp hb).1
theorem N6(n m:Nat)(p:Nat->Bool):(bits n m).filter p=bits n (maskOf ((bits n m).filter p)):=by
 rw[uE,MB]
theorem M3(n m:Nat)(p:Nat->Bool):maskOf ((bits n m).filter p)<2^n:=ym fun a ha=>(dI.mp (List.mem_filter.mp ha).1).1
theorem and_eq(hk:k<2^g.length):((bits g.length m).filter fun x=>(bits g.length k).contains x)=bits g.length (m&&&k):=by
 rw[uE];refine mh _ _ _ fun i _=>?_;rw[Nat.testBit_and,eY hk]
theorem QG(hk:k<2^g.length):((bits g.length m).filter fun x=> !(bits g.length k).contains x)=bits g.length (minus m k):=by
 rw[uE];refine mh _ _ _ fun i _=>?_;rw[gb,eY hk]
theorem or_eq(hm:m<2^g.length)(hk:k<2^g.length):(those g fun x=>(bits g.length m).contains x || (bits g.length k).contains x)=bits g.length (m ||| k):=by
 unfold those allOf;refine mh _ _ _ fun i _=>?_;rw[Nat.testBit_or,eY hm,eY hk]
theorem OJ(R:cX g needs){s t i j:Nat}{l:Option Nat}(hs:s<2^g.length)(ht:t<2^g.length)(h1:fP needs g.length none i s)(h2:fP (flipped g.length needs) g.length l j t):
  between g l (bits g.length s) (bits g.length t)=bits g.length (runM needs g.length i s&&&runM (flipped g.length needs) g.length j t):=by
 unfold between;dsimp only;rw[Oz R ht h2,Eo R hs h1,and_eq (jj (fo _ _) ht j)]
theorem Qt(l:List Nat):inOrder g l=bits g.length (maskOf l):=by
 unfold inOrder those allOf;refine mh _ _ _ fun i _=>?_;rw[x5]
theorem Jd{n m:Nat}(h:m<2^n)(hm:m≠0):low n m<n:=by
 obtain⟨a,r,e,ha,_⟩:=kY h hm;unfold low;rw[e];exact ha
theorem Qn{n m:Nat}(hm:m<2^n):(bits n m).take 1=bits n (if m=0 then 0 else 2^low n m):=by
 by_cases z:m=0
 ·rw[if_pos z,z,rf];rfl
 ·obtain⟨a,r,e,ha,_⟩:=kY hm z;rw[if_neg z];unfold low;rw[e];show [a]=bits n (2^a);rw[oZ ha]
end
def gk(n:Nat)(k:Known)(given:List (Text×Nat)):Prop:= ∀v,(k.find? fun x=>x.1==v).map (fun x=>x.2)=(given.lookup v).map (bits n)
def vg(n:Nat)(given:List (Text×Nat)):Prop:= ∀v m,given.lookup v=some m->m<2^n
theorem gk.nil(n:Nat):gk n [] []:=fun _=>rfl
theorem gk.put{n:Nat}{k:Known}{given IP:List (Text×Nat)}(h:gk n k given){v:Text}{m:Nat}(e: ∀x,IP.lookup x=if x=v then some m else given.lookup x):gk n ((v,bits n m)::k) IP:=fun x=>by
 rw[e,List.find?_cons]
 by_cases z:x=v
 ·subst z;rw[if_pos rfl];simp
 ·have:(v==x)=false:=beq_eq_false_iff_ne.mpr fun y=>z y.symm;rw[if_neg z];dsimp only;rw[this];exact h x
def b7:List Text->Query->Prop
 |_,.lit _=>True
 |vs,.var v=>v∈vs
 |_,.all=>True
 |vs,.op _ a b=>b7 vs a/\b7 vs b
 |vs,.let_ v a b=>b7 vs a/\b7 (v::vs) b
 |vs,.deps a _=>b7 vs a
 |vs,.needers u a _=>b7 vs u/\b7 vs a
 |vs,.somepath a b=>b7 vs a/\b7 vs b
 |vs,.allpaths a b=>b7 vs a/\b7 vs b
 |vs,.kind _ a=>b7 vs a
 |vs,.filter _ a=>b7 vs a
 |vs,.mark _ _ a=>b7 vs a
 |vs,.leaves a=>b7 vs a
 |vs,.roots a=>b7 vs a
 |vs,.first a=>b7 vs a
def Means(g:Graph)(k:Known)(q:Query):Option Nat->Prop
 |none=>mean g k q=none
 |some m=>m<2^g.length/\mean g k q=some (bits g.length m)
section
variable{g:Graph}{needs:List Nat}{k:Known}{a b:Query}{m s t:Nat}
theorem Pq:Means g k .all (some (2^g.length-1)):=⟨Nat.sub_lt (Nat.two_pow_pos _) Nat.one_pos,by rw[Qa];rfl⟩
theorem Pr{t:Text}{i:Nat}(hi:i<g.length)(h:(g.findIdx? fun x=>x.name==t)=some i):Means g k (.lit t) (some (2^i)):=by
 refine⟨lx hi,?_⟩;show(g.findIdx? fun x=>x.name==t).map (fun a=>[a])=_;rw[h,oZ hi];rfl
theorem OX{t:Text}(h:(g.findIdx? fun x=>x.name==t)=none):Means g k (.lit t) none:=by
 show(g.findIdx? fun x=>x.name==t).map (fun a=>[a])=none;rw[h];rfl
theorem Pw{given:List (Text×Nat)}(hk:gk g.length k given)(hl:vg g.length given){v:Text}{m:Nat}(h:given.lookup v=some m):Means g k (.var v) (some m):=by
 refine⟨hl v m h,?_⟩;show(k.find? fun x=>x.1==v).map (fun x=>x.2)=_;rw[hk v,h];rfl
theorem QF(o:Nat)(ha:Means g k a (some s))(hb:Means g k b (some t)):Means g k (.op o a b) (some (if o=0 then s ||| t else if o=1 then minus s t else s&&&t)):=by
 obtain⟨h1,e1⟩:=ha;obtain⟨h2,e2⟩:=hb;refine⟨?_,?_⟩
 ·split
  ·exact vY h1 h2
  ·split
   ·exact yO h1 _
   ·exact mH h1 _
 ·show both (mean g k a) (mean g k b) _=_;rw[e1,e2];unfold both;dsimp only
  by_cases z0:o=0
  ·rw[if_pos z0,if_pos z0,or_eq h1 h2]
  ·rw[if_neg z0,if_neg z0]
   by_cases z1:o=1
   ·rw[if_pos z1,if_pos z1,QG h2]
   ·rw[if_neg z1,if_neg z1,and_eq h2]
theorem Pt(o:Nat)(ha:Means g k a none):Means g k (.op o a b) none:=by
 show both (mean g k a) (mean g k b) _=none;rw[show mean g k a=none from ha];rfl
theorem Pu(o:Nat)(hb:Means g k b none):Means g k (.op o a b) none:=by
 show both (mean g k a) (mean g k b) _=none;rw[show mean g k b=none from hb];cases mean g k a<;>rfl
theorem EZ{v:Text}(ha:Means g k a (some s)){r:Option Nat}(hb:Means g ((v,bits g.length s)::k) b r):Means g k (.let_ v a b) r:=by
 have e:mean g k (.let_ v a b)=mean g ((v,bits g.length s)::k) b:=by
  show(match mean g k a with |some s=>mean g ((v,s)::k) b |none=>none)=_;rw[ha.2]
 cases r with
 |none=>exact e.trans hb
 |some m=>exact⟨hb.1,e.trans hb.2⟩
theorem OW{v:Text}(ha:Means g k a none):Means g k (.let_ v a b) none:=by
 show(match mean g k a with |some s=>mean g ((v,s)::k) b |none=>none)=none;rw[show mean g k a=none from ha]
theorem OV(R:cX g needs){l:Option Nat}{i:Nat}(ha:Means g k a (some s))(h:fP needs g.length l i s):Means g k (.deps a l) (some (runM needs g.length i s)):=by
 refine⟨jj R.low ha.1 i,?_⟩;show(mean g k a).map (reached g l)=_;rw[ha.2];show some (reached g l (bits g.length s))=_;rw[Eo R ha.1 h]
theorem C2(R:cX g needs){l:Option Nat}{i j:Nat}(ha:Means g k a (some s))(hb:Means g k b (some t))(h1:fP needs g.length none i s)(h2:fP (flipped g.length needs) g.length l j t):
  Means g k (.needers a b l) (some (runM needs g.length i s&&&runM (flipped g.length needs) g.length j t)):=by
 refine⟨mH (jj R.low ha.1 i) _,?_⟩;show both (mean g k a) (mean g k b) (between g l)=_;rw[ha.2,hb.2];show some (between g l (bits g.length s) (bits g.length t))=_;rw[OJ R ha.1 hb.1 h1 h2]
theorem M7(R:cX g needs){i j:Nat}(ha:Means g k a (some s))(hb:Means g k b (some t))(h1:fP needs g.length none i s)(h2:fP (flipped g.length needs) g.length none j t):
  Means g k (.allpaths a b) (some (runM needs g.length i s&&&runM (flipped g.length needs) g.length j t)):=C2 (l:=none) R ha hb h1 h2
theorem M8(ha:Means g k a (some s))(hb:Means g k b (some t))(hp: ∀x∈chosen g (bits g.length s) (bits g.length t),x<g.length):
  Means g k (.somepath a b) (some (maskOf (chosen g (bits g.length s) (bits g.length t)))):=by
 refine⟨ym hp,?_⟩;show both (mean g k a) (mean g k b) _=_;rw[ha.2,hb.2];show some (inOrder g (chosen g (bits g.length s) (bits g.length t)))=_;rw[Qt]
theorem qM{f:Query->Query}{F:Nodes->Nodes}(hf:mean g k (f a)=(mean g k a).map F)(ha:Means g k a (some s)){p:Nat->Bool}(hF:F (bits g.length s)=(bits g.length s).filter p):
  Means g k (f a) (some (maskOf ((bits g.length s).filter p))):=by
 refine⟨M3 _ _ _,?_⟩;rw[hf,ha.2];show some (F (bits g.length s))=_;rw[hF,<-N6]
theorem DR(ha:Means g k a (some s)):Means g k (.first a) (some (if s=0 then 0 else 2^low g.length s)):=by
 refine⟨?_,?_⟩
 ·split
  ·exact Nat.two_pow_pos _
  ·rename_i z
   exact lx (Jd ha.1 z)
 ·show(mean g k a).map (fun s=>s.take 1)=_;rw[ha.2];show some ((bits g.length s).take 1)=_;rw[Qn ha.1]
theorem mw{f:Query->Query}{F:Nodes->Nodes}(hf:mean g k (f a)=(mean g k a).map F)(ha:Means g k a none):Means g k (f a) none:=by
 show mean g k (f a)=none;rw[hf,show mean g k a=none from ha];rfl
theorem xU{f:Query->Query->Query}{F:Nodes->Nodes->Nodes}(hf:mean g k (f a b)=both (mean g k a) (mean g k b) F)(ha:Means g k a none):Means g k (f a b) none:=by
 show mean g k (f a b)=none;rw[hf,show mean g k a=none from ha];rfl
theorem xV{f:Query->Query->Query}{F:Nodes->Nodes->Nodes}(hf:mean g k (f a b)=both (mean g k a) (mean g k b) F)(hb:Means g k b none):Means g k (f a b) none:=by
 show mean g k (f a b)=none;rw[hf,show mean g k b=none from hb];cases mean g k a<;>rfl
end
end Bq
namespace Bq
open PySem
theorem Hb(a b:Nat):Builtin.bitAnd (a:Int) (b:Int)=((a&&&b:Nat):Int):=by
 unfold Builtin.bitAnd;rw[decide_eq_true (Int.natCast_nonneg a),decide_eq_true (Int.natCast_nonneg b)];rfl
theorem not_neg(a:Nat):decide (0<=Builtin.bitNot (a:Int))=false:=decide_eq_false (by unfold Builtin.bitNot;omega)
theorem not_not(x:Int):Builtin.bitNot (Builtin.bitNot x)=x:=by unfold Builtin.bitNot;omega
theorem TC(a b:Nat):Builtin.bitOr (a:Int) (b:Int)=((a ||| b:Nat):Int):=by
 unfold Builtin.bitOr Builtin.bitAnd;rw[not_neg a,not_neg b];show Builtin.bitNot (Builtin.bitNot _)=_;rw[not_not,not_not,not_not];rfl
theorem SU{a b:Nat}(h:a&&&b=0):a+b=a ||| b:=by
 have eJ: ∀n,a<2^n->b<2^n->a+b<2^n->a+b=a ||| b:=fun n ha hb WV=>by
  have q:=BitVec.add_eq_or_of_and_eq_zero (BitVec.ofNat n a) (BitVec.ofNat n b) (by
   apply BitVec.eq_of_toNat_eq
   rw[BitVec.toNat_and,BitVec.toNat_ofNat,BitVec.toNat_ofNat,Nat.mod_eq_of_lt ha,Nat.mod_eq_of_lt hb,h];simp)
  have q2:=congrArg BitVec.toNat q;rw[BitVec.toNat_add,BitVec.toNat_or,BitVec.toNat_ofNat,BitVec.toNat_ofNat,Nat.mod_eq_of_lt ha,Nat.mod_eq_of_lt hb,Nat.mod_eq_of_lt WV] at q2;exact q2
 have l:a+b<2^(a+b):=Nat.lt_two_pow_self;exact eJ (a+b) (by omega) (by omega) l
theorem SA(a b:Nat):a-(a&&&b)=minus a b:=by
 have h1:(a&&&b)&&&minus a b=0:=Nat.eq_of_testBit_eq fun i=>by
  rw[Nat.testBit_and,Nat.testBit_and,gb,Nat.zero_testBit];cases a.testBit i<;>cases b.testBit i<;>rfl
 have h2:(a&&&b) ||| minus a b=a:=Nat.eq_of_testBit_eq fun i=>by
  rw[Nat.testBit_or,Nat.testBit_and,gb];cases a.testBit i<;>cases b.testBit i<;>rfl
 have h3:=SU h1;rw[h2] at h3;omega
theorem OI(a b:Nat):Builtin.bitAnd (a:Int) (Builtin.bitNot (b:Int))=((minus a b:Nat):Int):=by
 unfold Builtin.bitAnd;rw[decide_eq_true (Int.natCast_nonneg a),not_neg b];show(a:Int)-((((a:Int).toNat&&&(Builtin.bitNot (Builtin.bitNot (b:Int))).toNat:Nat)):Int)=_;rw[not_not];show(a:Int)-((a&&&b:Nat):Int)=_;rw[<-SA a b];have:=Nat.and_le_left (n:=a) (m:=b);omega
theorem Hf(m i:Nat):decide (Builtin.bitAnd ((m:Int) / 2^((i:Int).toNat)) 1=1)=m.testBit i:=by
 have e:(m:Int) / 2^((i:Int).toNat)=((m / 2^i:Nat):Int):=by
  rw[Int.toNat_natCast,Int.natCast_ediv,Int.natCast_pow];rfl
 rw[e,show(1:Int)=((1:Nat):Int) from rfl,Hb,Nat.testBit_eq_decide_div_mod_eq,Nat.and_one_is_mod]
 by_cases h:m / 2^i%2=1
 ·rw[decide_eq_true h,decide_eq_true (by rw[h])]
 ·rw[decide_eq_false h];exact decide_eq_false fun q=>h (Int.natCast_inj.mp q)
theorem Sy(i:Nat):(1:Int)*2^((i:Int).toNat)=((2^i:Nat):Int):=by
 rw[Int.toNat_natCast,Int.one_mul,Int.natCast_pow];rfl
theorem Tn(m:Nat):m<2^Builtin.Int.intBits (m:Int):=by
 unfold Builtin.Int.intBits
 by_cases h:m=0
 ·subst h;simp
 ·rw[if_neg (by simpa using h),Int.natAbs_natCast];exact Nat.lt_log2_self
theorem Jb{m n:Nat}(h:m<2^n):Builtin.Int.intBits (m:Int)<=n:=by
 unfold Builtin.Int.intBits
 by_cases h0:m=0
 ·subst h0;simp
 ·rw[if_neg (by simpa using h0),Int.natAbs_natCast];exact(Nat.log2_lt h0).mpr h
theorem Qc{m n:Nat}(h:m<2^n):bits (Builtin.Int.intBits (m:Int)) m=bits n m:=(EM (Tn m) (Jb h)).symm
end Bq
namespace Bx
open PySem
structure gi(fs:List Addr)(P:Addr->Prop)(h h':Heap):Prop where
 keep: ∀b o,P b->b∉fs->h.get? b=some o->h'.get? b=some o
 slot: ∀b o,b∈fs->h.get? b=some o-> ∃sl,h'.get? b=some {o with slots:=sl}
theorem gi.refl(fs:List Addr)(P:Addr->Prop)(h:Heap):gi fs P h h:=⟨fun _ _ _ _ e=>e,fun _ o _ e=>⟨o.slots,e⟩⟩
theorem gi.trans{fs:List Addr}{P:Addr->Prop}{h h1 h2:Heap}(x:gi fs P h h1)(y:gi fs P h1 h2):gi fs P h h2:=
 ⟨fun b o p n e=>y.keep b o p n (x.keep b o p n e),fun b o m e=>let⟨_,e1⟩:=x.slot b o m e;let⟨sl,e2⟩:=y.slot b _ m e1;⟨sl,e2⟩⟩
def v_(P:Addr->Prop)(cs:Addr)(h:Heap)(a C d:Addr):Prop:=
 ¬P a/\ ∃vs,h.get? a=some {cls:= .ref C,dict:=some d,data:= .fields vs}/\vs.size=6/\(C≠cs->vs[2]? =some .none)/\vs[1]? =some .none
def gj(P:Addr->Prop)(cs:Addr)(h:Heap)(a C d:Addr):Prop:=
 ¬P a/\ ∃vs,h.get? a=some {cls:= .ref C,dict:=some d,data:= .fields vs}/\vs.size=6/\(C≠cs->vs[2]? =some .none)/\
  ∃T oT ts,vs[1]? =some (.ref T)/\ ¬P T/\T≠a/\h.get? T=some oT/\oT.data= .fields ts/\3<ts.size
def lJ(P:Addr->Prop)(cs:Addr)(h:Heap)(a C d:Addr):Prop:=v_ P cs h a C d∨gj P cs h a C d
theorem gj.weak{P P':Addr->Prop}{cs:Addr}{h:Heap}{a C d:Addr}(x:gj P cs h a C d)(w: ∀b,(∃o,h.get? b=some o)->P' b->P b):gj P' cs h a C d:=by
 obtain⟨p,vs,h1,h2,h3,T,oT,ts,h4,p5,h6,h7,h8,h9⟩:=x;exact⟨fun q=>p (w _ ⟨_,h1⟩ q),vs,h1,h2,h3,T,oT,ts,h4,fun q=>p5 (w _ ⟨_,h7⟩ q),h6,h7,h8,h9⟩
theorem v_.weak{P P':Addr->Prop}{cs:Addr}{h:Heap}{a C d:Addr}(x:v_ P cs h a C d)(w: ∀b,(∃o,h.get? b=some o)->P' b->P b):v_ P' cs h a C d:=by
 obtain⟨p,vs,h1,h2,h3,h4⟩:=x;exact⟨fun q=>p (w _ ⟨_,h1⟩ q),vs,h1,h2,h3,h4⟩
theorem lJ.weak{P P':Addr->Prop}{cs:Addr}{h:Heap}{a C d:Addr}(x:lJ P cs h a C d)(w: ∀b,(∃o,h.get? b=some o)->P' b->P b):lJ P' cs h a C d:=by
 rcases x with x |x
 ·exact .inl (x.weak w)
 ·exact .inr (x.weak w)
section
variable{M:Model}{A:Around}{E:Value->Shared->Prop}{s:Shared}{P:Addr->Prop}{cs:Addr}{a C d:Addr}{Q:Unit->Shared->Prop}
theorem wj{base h:Heap}{l:List Env}(hl:h.FunFrames base l){b:Addr}{o:Obj}{vs:Array Value}(e:h.get? b=some o)(hd:o.data= .fields vs):b∉l.filterMap (·.frame):=fun hm=>by
 obtain⟨_,o',ho,AS⟩:=hl.mem hm;rw[e] at ho;injection ho with ho;subst ho;exact AS vs hd
theorem IK{base:Heap}{env:Env}{outer:List Env}{L:Addr}{vs:Array Value}{head:Value}{RN:Bool}
  (iX:A.frames=some (env::outer)) (hl:s.heap.FunFrames base (env::outer)) (hf:env.frame=some L)
  (hP: ∀b,P b->b<s.heap.objs.size) (pa: ¬P a) (he:s.heap.get? a=some {cls:= .ref C,dict:=some d,data:= .fields vs}) (hsz:vs.size=6) (h2:C≠cs->vs[2]? =some .none)
  (h: ∀h',gj P cs h' a C d->gi ((env::outer).filterMap (·.frame)) P s.heap h'->s.heap.objs.size<=h'.objs.size->Q () {s with heap:=h'}):
  wpAny M A (do let x <-frameOf env;let pl <-entryPlaceOf L RN;let b <-EntryCells.newEntry head x .none (rawInt L) .none pl;setField (.ref a) 1 b) Q E s:=by
 have Kr:a∉(env::outer).filterMap (·.frame):=wj hl he rfl;refine wpAny_bind (wpAny_frameOf_fun iX hl hf fun h₁ hs₁=>?_);refine wpAny_bind (wpAny_entryPlaceOf fun pl cz=>?_);unfold EntryCells.newEntry newFields;refine wpAny_bind (wpAny_newObj_type ?_ (cz.sizeOk5 _ _ _ _ _));have he₁:h₁.get? a=some {cls:= .ref C,dict:=some d,data:= .fields vs}:=(hs₁.2.1 a Kr).trans he;have he₂:=Heap.get?_push_of_some (h:=h₁) {cls:= .type "traceback",dict:=none,data:= .fields ([head,.ref L,.none,rawInt L,.none]++(if pl.isEmpty then List.replicate 6 Value.none else pl)).toArray} he₁;refine wpAny_setField he₂ rfl (by omega) (h _ ?_ ?_ ?_)
 ·have Lq:h₁.objs.size≠a:=Nat.ne_of_gt (Heap.lt_size he₁);have he₃:=Heap.get?_update_self (Obj.mapFields (·.setIfInBounds 1 (Value.ref h₁.objs.size))) he₂ rfl;have hT₃:=(Heap.get?_update_other (h₁.push {cls:= .type "traceback",dict:=none,data:= .fields ([head,.ref L,.none,rawInt L,.none]++(if pl.isEmpty then List.replicate 6 Value.none else pl)).toArray})
   (Obj.mapFields (·.setIfInBounds 1 (Value.ref h₁.objs.size))) (Ne.symm Lq)).trans (Heap.get?_push_size h₁ rfl)
  refine⟨pa,_,he₃,by simpa using hsz,fun hc=>by rw[Array.getElem?_setIfInBounds_ne (by decide)];exact h2 hc,h₁.objs.size,_,_,by simp [hsz],fun q=>?_,Lq,hT₃,rfl,?_⟩
  ·have:=hP _ q;rw[hs₁.1] at this;exact Nat.lt_irrefl _ this
  ·simp only [List.size_toArray,List.length_append,List.length_cons,List.length_nil]<;>omega
 ·refine⟨fun b o p nb e=>?_,fun b o m e=>?_⟩
  ·have AF:a≠b:=fun q=>pa (q▸p);rw[Heap.get?_update_other _ _ AF];exact Heap.get?_push_of_some _ ((hs₁.2.1 b nb).trans e)
  ·have AF:a≠b:=fun q=>Kr (q▸m);obtain⟨sl,e1⟩:=hs₁.2.2 b o e;exact⟨sl,by rw[Heap.get?_update_other _ _ AF];exact Heap.get?_push_of_some _ e1⟩
 ·have e1:=hs₁.1;have:((h₁.push {cls:= .type "traceback",dict:=none,data:= .fields ([head,.ref L,.none,rawInt L,.none]++(if pl.isEmpty then List.replicate 6 Value.none else pl)).toArray}).update a
   (Obj.mapFields (·.setIfInBounds 1 (Value.ref h₁.objs.size)))).objs.size=h₁.objs.size+1:=by
   rw[Heap.size_update,Heap.size_push]
  rw[this,e1];exact Nat.le_succ _
theorem vZ{base:Heap}{env:Env}{outer:List Env}{L:Addr}
  (iX:A.frames=some (env::outer)) (hl:s.heap.FunFrames base (env::outer)) (hf:env.frame=some L) (hP: ∀b,P b->b<s.heap.objs.size) (x:lJ P cs s.heap a C d)
  (h: ∀h',gj P cs h' a C d->gi ((env::outer).filterMap (·.frame)) P s.heap h'->s.heap.objs.size<=h'.objs.size->Q () {s with heap:=h'}):
  wpAny M A (noteFrame (.ref a) env) Q E s:=by
 unfold noteFrame;simp only [hf];rcases x with⟨pa,vs,he,hsz,h2,h1⟩ |⟨pa,vs,he,hsz,h2,T,oT,ts,h1,pT,tD,hT,jB,h3⟩
 ·refine wpAny_bind (wpAny_field he rfl h1 ?_);rw[if_neg (by decide)];exact IK iX hl hf hP pa he hsz h2 h
 ·refine wpAny_bind (wpAny_field he rfl h1 ?_);rw[if_pos (show(Value.ref T != Value.none)=true from by simp)];obtain⟨fl,WL⟩: ∃fl,ts[3]? =some fl:=⟨_,Array.getElem?_eq_getElem h3⟩;refine wpAny_bind (wpAny_field hT jB WL ?_)
  by_cases hfl:(fl==rawInt L)=true
  ·rw[if_pos hfl];exact wpAny_pure (h _ ⟨pa,vs,he,hsz,h2,T,oT,ts,h1,pT,tD,hT,jB,h3⟩ (.refl ..) (Nat.le_refl _))
  ·rw[if_neg hfl];refine wpAny_bind (wpAny_setField hT jB h3 ?_);have Vt:T∉(env::outer).filterMap (·.frame):=wj hl hT jB;have lF: ∀b,b≠T->(s.heap.update T (Obj.mapFields (·.setIfInBounds 3 Value.none))).get? b=s.heap.get? b:=fun b hb=>Heap.get?_update_other _ _ (Ne.symm hb);have k1:gi ((env::outer).filterMap (·.frame)) P s.heap (s.heap.update T (Obj.mapFields (·.setIfInBounds 3 Value.none))):=
    ⟨fun b o p _ e=>(lF b fun q=>pT (q▸p)).trans e,fun b o m e=>⟨o.slots,(lF b fun q=>Vt (q▸m)).trans e⟩⟩
   have Kw:(s.heap.update T (Obj.mapFields (·.setIfInBounds 3 Value.none))).objs.size=s.heap.objs.size:=Heap.size_update ..;refine IK (s:={s with heap:=s.heap.update T (Obj.mapFields (·.setIfInBounds 3 Value.none))}) iX (hl.of_keeps fun b o hb AS=>⟨o,(lF b fun q=>by rw[q,hT] at hb;injection hb with hb;subst hb;exact AS ts jB).trans hb,rfl⟩) hf
    (fun b p=>by show b<(s.heap.update T _).objs.size;rw[Kw];exact hP b p) pa ((lF a (Ne.symm tD)).trans he) hsz h2 fun h' x k z=>h h' x (k1.trans k) (by have z:(s.heap.update T _).objs.size<=_:=z;rw[Kw] at z;exact z)
theorem rQ{fr:Option Addr}(x:gj P cs s.heap a C d)(fs:List Addr)(W5: ∀b∈fs,∃o,s.heap.get? b=some o/\ ∀vs,o.data≠ .fields vs)
  (h: ∀h',gj P cs h' a C d->gi fs P s.heap h'->s.heap.objs.size<=h'.objs.size->Q () {s with heap:=h'}):
  wpAny M A (setFlight (.ref a) fr) Q E s:=by
 obtain⟨pa,vs,he,hsz,h2,T,oT,ts,h1,pT,tD,hT,jB,h3⟩:=x;unfold setFlight;refine wpAny_bind (wpAny_field he rfl h1 ?_);rw[if_pos (show(Value.ref T != Value.none)=true from by simp)];have lF: ∀(f:Obj->Obj) b,b≠T->(s.heap.update T f).get? b=s.heap.get? b:=fun f b hb=>Heap.get?_update_other _ _ (Ne.symm hb);refine wpAny_setField hT jB h3 (h _ ?_ ⟨fun b o p _ e=>(lF _ b fun q=>pT (q▸p)).trans e,fun b o m e=>⟨o.slots,(lF _ b fun q=>?_).trans e⟩⟩ (Nat.le_of_eq (Heap.size_update ..).symm))
 ·exact⟨pa,vs,(lF _ a (Ne.symm tD)).trans he,hsz,h2,T,_,_,h1,pT,tD,Heap.get?_update_self _ hT (Obj.isFreed_of_fields (Obj.data_mapFields jB _)),Obj.data_mapFields jB _,by simpa using h3⟩
 ·obtain⟨o',e',hn⟩:=W5 b m;rw[q,hT] at e'
  injection e' with e'
  subst e';exact hn ts jB
theorem Qz{base:Heap}{env:Env}{outer:List Env}{L:Addr}
  (iX:A.frames=some (env::outer)) (hl:s.heap.FunFrames base (env::outer)) (hf:env.frame=some L) (hP: ∀b,P b->b<s.heap.objs.size) (x:lJ P cs s.heap a C d)
  (h: ∀h',gj P cs h' a C d->gi ((env::outer).filterMap (·.frame)) P s.heap h'->s.heap.objs.size<=h'.objs.size->Q () {s with heap:=h'}):
  wpAny M A (leaving env (.ref a)) Q E s:=by
 unfold leaving;refine wpAny_bind (vZ iX hl hf hP x fun h1 x1 k1 z1=>?_);refine rQ (s:={s with heap:=h1}) x1 ((env::outer).filterMap (·.frame)) (fun b m=>?_) fun h2 x2 k2 z2=>h h2 x2 (k1.trans k2) (Nat.le_trans z1 z2);obtain⟨_,o,e,hn⟩:=hl.mem m;obtain⟨sl,e1⟩:=k1.slot b o m e;exact⟨_,e1,hn⟩
end
end Bx
namespace Bx
open PySem PySem.W PySem.Calls PyProof.Rows Builtin Builtin.ObjectAttr
def zA:List Value:=[.type "Exception",.type "BaseException",.type "object"]
def mF:List Value->Bool
 | .ref _::r=>mF r
 |l=>l==zA
theorem C5{l:List Value}(e:mF l=true):l=zA∨ ∃c r,l= .ref c::r/\mF r=true:=by
 cases l with
 |nil=>exact absurd e (by decide +kernel)
 |cons c r=>cases c<;>first |exact .inr ⟨_,_,rfl,e⟩ |exact .inl (beq_iff_eq.mp e)
theorem O6(self:Value)(l:List Value)(e:mF l=true):refuseLoop self "__setattr__" l=pure ():=by
 induction l with
 |nil=>exact absurd e (by decide +kernel)
 |cons c r ih=>
  rcases C5 e with q |⟨c',r',q,e'⟩
  ·rw[q];exact PySem.F.store_Exception.passes self
  ·cases q;rw[refuseLoop_ref];exact ih e'
theorem jb{x:String}{b:Bool}(h:zA.contains (.type x)=b)(l:List Value)(e:mF l=true):l.contains (.type x)=b:=by
 induction l with
 |nil=>exact absurd e (by decide +kernel)
 |cons c r ih=>
  rcases C5 e with q |⟨c',r',q,e'⟩
  ·rw[q];exact h
  ·cases q;rw[List.contains_cons,ih e'];rfl
def jv(K:Frag)(C:Addr):Bool:=match K.lookup C with
 |some ⟨.type "type",_,.cls cd,sl⟩=>(match cd.mro,sl.toList with
  | .ref C'::bm,[_,_,_,_,some (.builtin n),_]=>C'==C&&n=="Exception.__new__"&& !cd.hasDel&&cd.hasDict&&mF bm
  |_,_=>false)
 |_=>false
structure XC(h:Heap)(C:Addr)(bm:List Value):Prop where
 obj: ∃nm qn N bs sn sub ab ni dd k0 k1 k2 k3 k5,h.get? C=some (excClassObj nm qn C N bs bm true sn sub ab ni dd k0 k1 k2 k3 k5 "Exception.__new__")
 bm:mF bm=true
theorem jY{K:Frag}{h:Heap}{C:Addr}(X:K.In h)(q:jv K C=true): ∃bm cd,XC h C bm/\clsIn K C=some cd/\cd.mro= .ref C::bm/\cd.hasDict=true:=by
 unfold jv at q
 split at q
 ·rename_i dd cd sl ho
  split at q
  ·rename_i C' bm k0 k1 k2 k3 n k5 hm hs
   simp only [Bool.and_eq_true,beq_iff_eq,Bool.not_eq_true'] at q;obtain⟨⟨⟨⟨rfl,rfl⟩,Kq⟩,nq⟩,hb⟩:=q;have ee:clsIn K C'=some cd:=by unfold clsIn;rw[ho]
   refine⟨bm,cd,?_,ee,hm,nq⟩;obtain⟨nm,bs,mro,ns,qn,hd,sn,sub,ab,ni,YI⟩:=cd;dsimp only at hm Kq nq;subst hm Kq nq;have Xt:sl= #[k0,k1,k2,k3,some (.builtin "Exception.__new__"),k5]:=by
    obtain⟨l⟩:=sl;simp only at hs;rw[hs]
   subst Xt;exact⟨⟨nm,qn,ns,bs,sn,sub,ab,ni,dd,k0,k1,k2,k3,k5,X _ _ ho⟩,hb⟩
  ·cases q
 ·cases q
abbrev eA(C t:Addr):Obj:={cls:= .ref C,data:= .fields #[.ref t,.none,.none,.none,.bool false,.none]}
abbrev jk(us:List Value):Obj:={cls:= .type "tuple",data:= .seq us.toArray}
section
variable{prog:Program}{w:World}{A:Around}{R:Result->Shared->Prop}{h:Heap}{g:Array GenState}{dr:Drawn}{t:Nat}{os:OsState}{C f:Addr}{us:List Value}{K:Frag}
theorem QB(X:K.In h)(hx:jv K C=true)(hi:findIn K (.ref C) "__init__"=some (some (.ref f)))(hf:typeIn K (.ref f)=some (.type "function"))(hz:us.length<=sizeLine)
  (hq:codeAny (model prog w) (A.under (.builtin "type.__call__" ⟨.ref C::us,[]⟩)) (.call (.ref f) ⟨.ref (h.objs.size+1)::us,[]⟩) (InitBack (h.objs.size+1) R)
   ⟨(h.push (jk us)).push (eA C h.objs.size),g,dr,t,os⟩):
  codeAny (model prog w) A (.call (.ref C) ⟨us,[]⟩) R ⟨h,g,dr,t,os⟩:=by
 obtain⟨bm,cd,Y,-,-,-⟩:=jY X hx;obtain⟨⟨nm,qn,N,bs,sn,sub,ab,ni,dd,k0,k1,k2,k3,k5,hC⟩,jz⟩:=Y;have F:=PySem.F.excBase_Exception;have cB:(Value.ref C::bm).contains (.type "Exception")=true:=by rw[List.contains_cons,jb (b:=true) (by decide +kernel) bm jz];rfl
 have cA:(Value.ref C::bm).contains (.type "AttributeError")=false:=by rw[List.contains_cons,jb (b:=false) (by decide +kernel) bm jz];rfl
 have cN:(Value.ref C::bm).contains (.type "NameError")=false:=by rw[List.contains_cons,jb (b:=false) (by decide +kernel) bm jz];rfl
 have cC:(Value.ref C::bm).contains (.ref C)=true:=by simp
 have f1:=tc_lookup;have f2:=tc_bind (.ref C);have hT:(⟨h,g,dr,t,os⟩:Shared).TypeIs (.ref C) "type":=⟨_,hC,rfl⟩;refine codeAny_of_tree ?_;show wpAny _ _ (callAny (.ref C) _) _ _ _
 repeat (any_goals (first |assumption |with_reducible refine wpAny_loadPart_at hC ?_ |wp_step))
 refine⟨rfl,?_⟩;refine codeAny_call_builtin_at (Code.quiet_builtin _ (by decide +kernel)) entry_typeCall (wpAny_check_type_call_sub hC ?_)
 repeat (first |with_reducible refine wpAny_loadPart_at hC ?_ |with_reducible refine wpAny_madeBy_exc hC ?_ |wp_step)
 have Yr:=F.noStar;refine codeAny_call_builtin_code (Code.quiet_builtin _ F.quiet) ?_;simp only [checkBuiltinCall,F.newKind,F.newSplit,F.newRow]
 repeat (first |refine wpAny_loadPart_at hC ?_ |(refine wpAny_isSubtype_exc hC ?_;rw[cB]) |refine wpAny_staticBase_exc hC ?_ |refine wpAny_madeBy_exc hC ?_ |simp only [bne_self_eq_false,Bool.false_eq_true,if_false] |wp_step)
 have Yp:=F.ends;refine codeAny_builtinAt F.entry ?_;unfold Builtin.«BaseException.__new__»;refine PySem.wpAt_bind ?_;show PySem.wpAt _ _ _ (stack>>=_) _ _ _;refine PySem.wpAt_bind (PySem.wpAt_stack fun p below=>PySem.wpAt_of_wpAny ?_)
 wp_walk
 refine PySem.wpAt_of_wpAny ?_;rw[F.owner]
 repeat (first |with_reducible refine wpAny_madeHere_exc F.canon hC ?_ |with_reducible refine wpAny_loadPart_at hC ?_ |(with_reducible refine wpAny_isSubtype_exc hC ?_;first |rw[cB] |rw[cA] |rw[cN]) |wp_step)
 have k: ∀b o,h.get? b=some o->((h.push (jk us)).push (eA C h.objs.size)).get? b=some o:=fun b o e=>Heap.get?_push_of_some _ (Heap.get?_push_of_some _ e);have sz:(h.push (jk us)).objs.size=h.objs.size+1:=Heap.size_push ..;have gx:((h.push (jk us)).push (eA C h.objs.size)).get? (h.objs.size+1)=some (eA C h.objs.size):=by
  have q:=Heap.get?_push_size (h.push (jk us)) (o:=eA C h.objs.size) rfl
  rwa [sz] at q
 have t1:Looks (model prog w) ((h.push (jk us)).push (eA C h.objs.size)) (typeOf (.ref (h.objs.size+1))) (.ref C):=(Looks.ld gx).andThen .now;have i1:=(looks_findIn (M:=model prog w) X hi).keeps k;have b1:=(bind_fn (M:=model prog w) X (.ref (h.objs.size+1)) hf).keeps k;refine wpAny_isSubtype_exc (h:=(h.push (jk us)).push (eA C h.objs.size)) (k _ _ hC) ?_;rw[cC];rw[if_neg (show ¬(!true)=true by decide),show(h.push {cls:=Value.type "tuple",data:=Data.seq (([]:List Value).append us).toArray}).objs.size=h.objs.size+1 from Heap.size_push ..];unfold callSpecial? specialOf;refine wpAny_bind (wpAny_holding (wpAny_bind (wpAny_bind (t1.at (i1.at (wpAny_holding (wpAny_bind (b1.at (wpAny_bind (wpAny_call (codeAny_mono hq fun r s' z=>?_)))))))))));rcases r with e |(v |_ |_ |_)<;>first |exact z |exact z.elim |skip
 obtain⟨rfl,z⟩:=z;exact wpAny_pure (wpAny_pure z)
theorem HI{s:Shared}{x:Addr}{ox:Obj}{od:Option Obj}{name:Str}{tk:Tok}{v:Value}(X:K.In s.heap)(hx:jv K C=true)(I:InstAt s.heap x ox C od)(ht:takerIn K C name=some none)
  (h: ∀b,wpAny (model prog w) A.in1 (storeInOwnDict (.ref x) (.ref C) (.str name tk) name v b)
   (fun fin s'=>match fin with | .done f=>R (.ok f) s' | .again c'=>c'.quiet=true/\codeAny (model prog w) A c' R s') (fun e s'=>R (.error e) s') s):
  codeAny (model prog w) A (.call (.builtin "object.__setattr__") ⟨[.ref x,.str name tk,v],[]⟩) R s:=by
 obtain⟨bm,cd,Y,ee,lM,-⟩:=jY X hx;have T:Looks (model prog w) s.heap (typeOf (.ref x)) (.ref C):=I.type;have hO:cd.mro.contains (.type "object")=true:=by rw[lM,List.contains_cons,jb (b:=true) (by decide +kernel) bm Y.bm];rfl
 have ne:cd.mro.isEmpty=false:=by rw[lM];rfl
 have inst:Looks (model prog w) s.heap (isInstance (.ref x) (.type "object")) true:=T.andThen (looks_mroIn X (by unfold mroIn;rw[ee,Option.bind_some,if_neg (by rw[ne];decide),hO]));have hm:Looks (model prog w) s.heap (mroOf (.ref C)) cd.mro:=(looks_clsIn X ee).andThen .now;obtain⟨Km,ha,hr⟩:=Option.bind_eq_some_iff.mp ht;have L3:Looks (model prog w) s.heap (storeTaker? Km) none:=by
  cases Km with
  |none=>exact .now
  |some a=>
   obtain⟨b,hb,q⟩:=Option.map_eq_some_iff.mp hr;refine(looks_takesIn X hb).andThen ?_;cases b with
   |true=>cases q
   |false=>exact .now
 have SF:=PySem.F.store_object;refine codeAny_call_builtin SF.slot.plain SF.entry ?_;refine @check_slot (model prog w) _ _ s "object.__setattr__" "object" "__setattr__" (.ref x) ([.str name tk,v]:List Value) [] _ SF.kind SF.split inst (SF.args _ _ _) ?_;rw[osa_eq,refuse_eq];refine wpAny_bind (wpAny_bind (T.here (wpAny_bind (hm.here ?_))));rw[lM,refuseLoop_ref,O6 _ bm Y.bm];exact wpAny_pure (wpAny_bind (T.here (wpAny_bind ((looks_findIn X ha).here (wpAny_bind (L3.here (h _)))))))
theorem Rh{s:Shared}{E:Value->Shared->Prop}{x tt:Addr}{name:Str}{v:Value}{Q:Unit->Shared->Prop}(X:K.In s.heap)(hx:jv K C=true)(hs:findIn K (.ref C) "__setattr__"=some (some (.builtin "object.__setattr__")))
  (ht:takerIn K C name=some none) (ho:s.heap.get? x=some (eA C tt))
  (h: ∀h':Heap,h'.get? x=some {(eA C tt) with dict:=some s.heap.objs.size}->h'.Ns1 s.heap.objs.size (fun y=>if y=name then some v else none)->(∀b o,b≠x->s.heap.get? b=some o->h'.get? b=some o)->
   Q () {s with heap:=h',toks:=s.toks+2}):wpAny (model prog w) A (setAttr (.ref x) name v) Q E s:=by
 obtain⟨bm,cd,Y,ee,lM,nq⟩:=jY X hx;have I:InstAt s.heap x (eA C tt) C none:=⟨ho,rfl,rfl,True.intro⟩;refine set_plain X I hs (HI (s:={s with toks:=s.toks+1}) X hx I ht fun b=>?_);have LO:x≠s.heap.objs.size:=Nat.ne_of_lt (Heap.lt_size ho);refine wpAny_bind (wpAny_pure (wpAny_bind (wpAny_bind (wpAny_loadPart ho (wpAny_bind (Looks.here (s:={s with toks:=s.toks+1}) (looks_clsIn X ee) ?_))))));rw[nq];have LN:(s.heap.push emptyDict).get? x=some (eA C tt):=Heap.get?_push_of_some _ ho;refine wpAny_bind (wpAny_alloc ?_);refine wpAny_bind (wpAny_update (s:={s with heap:=s.heap.push emptyDict,toks:=s.toks+1}) LN ?_);refine wpAny_pure (a:=some s.heap.objs.size) (wpAny_bind (wpAny_pure (wpAny_bind ?_)));have e1:((s.heap.push emptyDict).update x fun o=>{o with dict:=some s.heap.objs.size}).get? s.heap.objs.size=some emptyDict:=(Heap.get?_update_other _ _ LO).trans (Heap.get?_push_size _ rfl);have e2:((s.heap.push emptyDict).update x fun o=>{o with dict:=some s.heap.objs.size}).get? x=some {(eA C tt) with dict:=some s.heap.objs.size}:=Heap.get?_update_self _ LN rfl;have n1:((s.heap.push emptyDict).update x fun o=>{o with dict:=some s.heap.objs.size}).Ns s.heap.objs.size (fun _=>none):=⟨emptyDict, #[],_,e1,rfl,(fun e he=>absurd he (by simp)),fun _=>rfl⟩;refine wpAny_nsSet1 (s:={s with heap:=(s.heap.push emptyDict).update x fun o=>{o with dict:=some s.heap.objs.size},toks:=s.toks+1}) (Heap.Ns1.of_empty n1) fun h' iZ aY=>?_;obtain⟨oD,Lk,Lh,tS,tH,tF⟩:=iZ.count (PySem.Within.cons name v PySem.Within.nil);refine wpAny_bind (wpAny_lookBehind tS (by rw[tH];exact pastItsLine_dict (Nat.le_trans tF (by rw[List.length_cons,List.length_nil,sizeLine_eq];omega))) ?_);refine wpAny_pure (h h' ((aY.2 _ LO).trans e2) iZ fun b o hb e=>?_);exact(aY.2 b (Nat.ne_of_lt (Heap.lt_size e))).trans ((Heap.get?_update_other _ _ (Ne.symm hb)).trans (Heap.get?_push_of_some _ e))
theorem Ri{s:Shared}{E:Value->Shared->Prop}{x tt dx:Addr}{name:Str}{v:Value}{mA:Str->Option Value}{ns:List Str}{Q:Unit->Shared->Prop}(X:K.In s.heap)(hx:jv K C=true)
  (hs:findIn K (.ref C) "__setattr__"=some (some (.builtin "object.__setattr__"))) (ht:takerIn K C name=some none) (ho:s.heap.get? x=some {(eA C tt) with dict:=some dx}) (hn:s.heap.Ns1 dx mA) (hw:PySem.Within mA ns) (hz:ns.length<1000)
  (h: ∀h':Heap,h'.Ns1 dx (fun y=>if y=name then some v else mA y)->(∀b o,b≠dx->s.heap.get? b=some o->h'.get? b=some o)->Q () {s with heap:=h',toks:=s.toks+2}):
  wpAny (model prog w) A (setAttr (.ref x) name v) Q E s:=by
 obtain⟨bm,cd,Y,ee,lM,nq⟩:=jY X hx;obtain⟨od,tT⟩: ∃od,s.heap.get? dx=some od:=let⟨o,_,_,e,_⟩:=hn;⟨o,e⟩;have I:InstAt s.heap x {(eA C tt) with dict:=some dx} C (some od):=⟨ho,rfl,rfl,tT⟩;refine set_plain X I hs (HI (s:={s with toks:=s.toks+1}) X hx I ht fun b=>?_);refine wpAny_bind (wpAny_pure (wpAny_bind (wpAny_bind (wpAny_loadPart ho (wpAny_bind (Looks.here (s:={s with toks:=s.toks+1}) (looks_clsIn X ee) ?_))))));rw[nq];refine wpAny_pure (a:=some dx) (wpAny_bind (wpAny_pure (wpAny_bind ?_)));refine wpAny_nsSet1 (s:={s with toks:=s.toks+1}) hn fun h' iZ aY=>?_;obtain⟨oD,Lk,Lh,tS,tH,tF⟩:=iZ.count (PySem.Within.cons name v hw);refine wpAny_bind (wpAny_lookBehind tS (by rw[tH];exact pastItsLine_dict (Nat.le_trans tF (by rw[List.length_cons,sizeLine_eq];omega))) ?_);exact wpAny_pure (h h' iZ fun b o hb e=>(aY.2 b hb).trans e)
end
section
variable{M:Model}{A:Around}{E:Value->Shared->Prop}{env:Env}{Q:Flow->Shared->Prop}{K:Frag}{s:Shared}
theorem Em{x:Sem Value}(hh:A.handled=none)
  (h:wpAny M A x (fun v s₁=> ∃(e C:Addr)(bm:List Value)(d:Option Addr)(vs:Array Value),v= .ref e/\XC s₁.heap C bm/\s₁.heap.get? e=some {cls:= .ref C,dict:=d,data:= .fields vs}/\vs[1]? =some .none/\E (.ref e) s₁) E s):
  wpAny M A (raiseStmt env (some x) none) Q E s:=by
 unfold raiseStmt;refine wpAny_bind (wpAny_mono h (fun v s₁ h₁=>?_) fun _ _ q=>q);obtain⟨e,C,bm,d,vs,rfl,⟨⟨nm,qn,N,bs,sn,sub,ab,ni,dd,k0,k1,k2,k3,k5,hC⟩,jz⟩,he,h1,hE⟩:=h₁;have cB:(Value.ref C::bm).contains (.type "BaseException")=true:=by rw[List.contains_cons,jb (b:=true) (by decide +kernel) bm jz];rfl
 have cT:(Value.ref C::bm).contains (.type "type")=false:=by rw[List.contains_cons,jb (b:=false) (by decide +kernel) bm jz];rfl
 obtain⟨hp,g,dr,tk,os⟩:=s₁
 repeat (first |with_reducible refine wpAny_loadPart_at he ?_ |with_reducible refine wpAny_loadPart_at hC ?_ |(with_reducible refine wpAny_isSubtype_exc hC ?_;first |rw[cB] |rw[cT]) |with_reducible refine wpAny_field he rfl h1 ?_ |wp_step)
 exact wpAny_raiseNew_none hh hE
end
section
variable{prog:Program}{w:World}{A:Around}{R:Result->Shared->Prop}{h:Heap}{g:Array GenState}{dr:Drawn}{t:Nat}{os:OsState}{C f:Addr}{us:List Value}{K:Frag}
theorem RK{s:Shared}{E:Value->Shared->Prop}{x:Addr}{ox:Obj}{od:Option Obj}{name:Str}{expr:Bool}{v:Value}{Q:Value->Shared->Prop}(X:K.In s.heap)(hx:jv K C=true)(I:InstAt s.heap x ox C od)
  (wQ:findIn K (.ref C) "__getattribute__"=some (some (.builtin "BaseException.__getattribute__"))) (W7:findIn K (.ref C) "__getattr__"=some none)
  (hf:findObj K C od name=some (.value v)) (hh:handedIn v=true) (h:Q v {s with toks:=s.toks+1}):wpAny (model prog w) A (getAttr (.ref x) name expr) Q E s:=by
 obtain⟨bm,cd,Y,ee,lM,-⟩:=jY X hx;have T:Looks (model prog w) s.heap (typeOf (.ref x)) (.ref C):=I.type;have S:Slot "BaseException" "__getattribute__" "BaseException.__getattribute__":= .of (owner:="BaseException") (n:="__getattribute__") (by rw[typeLookup_type,builtinLookup_eq_fast];kernel_rfl) (by decide +kernel) (by decide +kernel) (by decide +kernel)
  (by first |exact .inl (by decide +kernel) |exact .inr (by decide +kernel)) (by rw[isSubtype_type];kernel_rfl)
 have hB:cd.mro.contains (.type "BaseException")=true:=by rw[lM,List.contains_cons,jb (b:=true) (by decide +kernel) bm Y.bm];rfl
 have ne:cd.mro.isEmpty=false:=by rw[lM];rfl
 have inst:Looks (model prog w) s.heap (isInstance (.ref x) (.type "BaseException")) true:=T.andThen (looks_mroIn X (by unfold mroIn;rw[ee,Option.bind_some,if_neg (by rw[ne];decide),hB]));have L1:Looks (model prog w) s.heap (ObjectAttr.find (.ref x) (.ref C) name) (.value v):=looks_find X I hf;have hk:Looks (model prog w) s.heap (hookBefore (.ref C)) none:=looks_hook X (show(if onTheHeap (.ref C) then findIn K (.ref C) "__getattr__" else some none)=some none from W7);unfold getAttr getAttrBy;refine wpAny_bind (wpAny_mkText (wpAny_holding (wpAny_bind (T _ _ _ _ (fun _ _ e=>e) (wpAny_bind (looks_findIn X wQ _ _ _ _ (fun _ _ e=>e) ?_))))));dsimp only;rw[show(onTheHeap (.ref C)&&Value.builtin "BaseException.__getattribute__"==Value.builtin "object.__getattribute__")=false from by rw[show(Value.builtin "BaseException.__getattribute__"==Value.builtin "object.__getattribute__")=false from by decide +kernel];exact Bool.and_false _,if_neg Bool.false_ne_true];unfold getAttrByItsOwn;refine wpAny_bind (hk _ _ _ _ (fun _ _ e=>e) (wpAny_bind (wpAny_attempt (wpAny_holding ?_))));unfold callGetattribute;rw[if_neg (by cases expr<;>decide)];unfold boundAndCalled;rw[S.bind];refine wpAny_bind (wpAny_pure ?_);show wpAny _ _ (call (.builtin "BaseException.__getattribute__") [.ref x,.str name s.toks]) _ _ _;refine wpAny_call (codeAny_call_builtin S.plain PySem.F.entry_bexc_ga ?_);refine @check_slot (model prog w) _ _ {s with toks:=s.toks+1} "BaseException.__getattribute__" "BaseException" "__getattribute__" (.ref x) ([.str name s.toks]:List Value) [] _ (by decide +kernel) (by decide +kernel) inst (PySem.F.args_bexc_ga _ _) ?_;unfold Builtin.«object.__getattribute__»;refine wpAny_bind (wpAny_pure (wpAny_bind (wpAny_pure (wpAny_bind (T _ _ _ _ (fun _ _ e=>e) (wpAny_bind (L1 _ _ _ _ (fun _ _ e=>e) ?_)))))));refine wpAny_pure ?_;show wpAny _ _ (handedOut v) _ _ _;rw[handedOut_of hh];exact wpAny_pure h
end
theorem Nq:entryFor table "proto.unchain"=some Builtin.«proto.unchain»:=entryFor_of_tree (by kernel_rfl)
section
variable{prog:Program}{w:World}{A:Around}{E:Value->Shared->Prop}{env:Env}{Q:Flow->Shared->Prop}{s:Shared}
theorem O5{x c:Sem Value}{hx:Addr}(hh:A.handled=some (.ref hx))(hc: ∀(Q:Value->Shared->Prop)(s:Shared),Q .none s->wpAny (model prog w) A c Q E s)
  (h:wpAny (model prog w) A x (fun v s₁=> ∃(e C:Addr)(bm:List Value)(d:Option Addr)(vs ws:Array Value)(ox:Obj),v= .ref e/\XC s₁.heap C bm/\s₁.heap.get? e=some {cls:= .ref C,dict:=d,data:= .fields vs}/\vs.size=6/\vs[1]? =some .none/\
   hx≠e/\s₁.heap.get? hx=some ox/\ox.data= .fields ws/\ws[2]? =some .none/\
   ∀(h':Heap)(us:Array Value),h'.get? e=some {cls:= .ref C,dict:=d,data:= .fields us}->us.size=6->us[1]? =some .none->(∀b,b≠e->h'.get? b=s₁.heap.get? b)->E (.ref e) {s₁ with heap:=h'}) E s):
  wpAny (model prog w) A (raiseStmt env (some x) (some c)) Q E s:=by
 unfold raiseStmt;refine wpAny_bind (wpAny_mono h (fun v s₁ h₁=>?_) fun _ _ q=>q);obtain⟨e,C,bm,d,vs,ws,ox,rfl,⟨⟨nm,qn,N,bs,sn,sub,ab,ni,dd,k0,k1,k2,k3,k5,hC⟩,jz⟩,he,hz,h1,bo,Xk,tT,AZ,hE⟩:=h₁;have cB:(Value.ref C::bm).contains (.type "BaseException")=true:=by rw[List.contains_cons,jb (b:=true) (by decide +kernel) bm jz];rfl
 have cT:(Value.ref C::bm).contains (.type "type")=false:=by rw[List.contains_cons,jb (b:=false) (by decide +kernel) bm jz];rfl
 have YR:C≠e:=fun q=>by rw[q,he] at hC;cases hC
 obtain⟨hp,g,dr,tk,os⟩:=s₁;refine wpAny_bind (wpAny_holding (hc _ _ (wpAny_bind (wpAny_pure ?_))))
 repeat (first |with_reducible refine wpAny_loadPart_at he ?_ |with_reducible refine wpAny_loadPart_at hC ?_ |(with_reducible refine wpAny_isSubtype_exc hC ?_;first |rw[cB] |rw[cT]) |with_reducible refine wpAny_field he rfl h1 ?_ |wp_step)
 have a1:((fun x:Array Value=>x.setIfInBounds 4 (Value.bool true)) ((fun x:Array Value=>x.setIfInBounds 3 Value.none) vs))[1]? =some .none:=by
  show((vs.setIfInBounds 3 Value.none).setIfInBounds 4 (Value.bool true))[1]? =_;rw[Array.getElem?_setIfInBounds_ne (by decide),Array.getElem?_setIfInBounds_ne (by decide)];exact h1
 rw[a1];refine wpAny_pure ?_;rw[if_neg (by decide)];refine wpAny_pure ?_;have o1:=Heap.get?_update_self (Obj.mapFields fun x=>x.setIfInBounds 3 Value.none) he rfl;have o2:=Heap.get?_update_self (Obj.mapFields fun x=>x.setIfInBounds 4 (Value.bool true)) o1 rfl;have n2: ∀b,b≠e->((hp.update e (Obj.mapFields fun x=>x.setIfInBounds 3 Value.none)).update e (Obj.mapFields fun x=>x.setIfInBounds 4 (Value.bool true))).get? b=hp.get? b:=fun b hb=>by
  rw[Heap.get?_update_other _ _ (Ne.symm hb),Heap.get?_update_other _ _ (Ne.symm hb)]
 unfold raiseNew;refine wpAny_bind (wpAny_handled ?_);rw[hh];dsimp only;rw[if_pos (show(Value.ref hx != Value.ref e)=true from by simp [bo])];have VF:=(n2 hx bo).trans Xk;refine wpAny_bind (wpAny_holding (wpAny_runValue (codeAny_builtin Nq ?_)));unfold Builtin.«proto.unchain»;refine wpAny_bind (wpAny_field VF tT AZ ?_);rw[if_pos (by decide)];refine wpAny_pure ?_;have z2:2<((vs.setIfInBounds 3 Value.none).setIfInBounds 4 (Value.bool true)).size:=by rw[Array.size_setIfInBounds,Array.size_setIfInBounds,hz];decide
 refine wpAny_bind (show wpAny _ _ (setField (.ref e) 2 (.ref hx)) _ _ _ from wpAny_setField o2 rfl z2 (wpAny_throw (hE _ _ (Heap.get?_update_self _ o2 rfl) ?_ ?_ fun b hb=>?_)))
 ·rw[Array.size_setIfInBounds,Array.size_setIfInBounds,Array.size_setIfInBounds,hz]
 ·rw[Array.getElem?_setIfInBounds_ne (by decide)];exact a1
 ·rw[Heap.get?_update_other _ _ (Ne.symm hb)];exact n2 b hb
end
end Bx
namespace L2
open PySem PySem.Spec PyProof.Rows
abbrev Key:=Sum Int Str
def mV:Key->Value->Bool
 | .inl k,v=>Value.isInt k v
 | .inr x,v=>Value.isStrOf x v
def KA(w:World):Key->Int
 | .inl k=>hashInt k
 | .inr x=>hashStr w x
theorem jJ: ∀{k:Key}{v:Value},mV k v=true->(∃i t,k=Sum.inl i/\v=Value.int i t)∨(∃x t,k=Sum.inr x/\v=Value.str x t)
 | .inl i,v,h=>by
  obtain⟨t,e⟩:=Value.isInt_shape (k:=i) (v:=v) h;exact .inl ⟨i,t,rfl,e⟩
 | .inr x,v,h=>by
  obtain⟨t,e⟩:=Value.isStrOf_shape (x:=x) (v:=v) h;exact .inr ⟨x,t,rfl,e⟩
theorem Pl(i:Int)(t:Tok):mV (.inl i) (.int i t)=true:=by simp [mV,Value.isInt]
theorem Pn(x:Str)(t:Tok):mV (.inr x) (.str x t)=true:=by simp [mV,Value.isStrOf]
theorem Te(a b:Int):decide ((Sum.inl a:Key)=Sum.inl b)=(a==b):=by
 by_cases e:a=b
 ·subst e;simp
 ·have h: ¬(Sum.inl a:Key)=Sum.inl b:=fun q=>e (Sum.inl.inj q);rw[decide_eq_false h];exact(beq_eq_false_iff_ne.mpr e).symm
theorem Th(a b:Str):decide ((Sum.inr a:Key)=Sum.inr b)=decide (a=b):=by
 by_cases e:a=b
 ·subst e;simp
 ·have h: ¬(Sum.inr a:Key)=Sum.inr b:=fun q=>e (Sum.inr.inj q);rw[decide_eq_false h,decide_eq_false e]
theorem Tf(a:Int)(b:Str):decide ((Sum.inl a:Key)=Sum.inr b)=false:=decide_eq_false (fun q=>nomatch q)
theorem Tg(a:Str)(b:Int):decide ((Sum.inr a:Key)=Sum.inl b)=false:=decide_eq_false (fun q=>nomatch q)
def dJ(prog:Program)(w:World):PySem.KeyKind prog w Key where
 is:=mV
 hash:=KA w
 inj:=fun v a b ha hb=>by
  rcases jJ ha with⟨i,t,rfl,rfl⟩ |⟨x,t,rfl,rfl⟩
  ·rcases jJ hb with⟨j,u,rfl,e⟩ |⟨y,u,rfl,e⟩
   ·injection e with e1 _;rw[e1]
   ·exact nomatch e
  ·rcases jJ hb with⟨j,u,rfl,e⟩ |⟨y,u,rfl,e⟩
   ·exact nomatch e
   ·injection e with e1 _;rw[e1]
 byValue:=fun k v h=>by
  rcases jJ h with⟨i,t,rfl,rfl⟩ |⟨x,t,rfl,rfl⟩<;>rfl
 pyHash:=fun hv h=>by
  rcases jJ hv with⟨i,t,rfl,rfl⟩ |⟨x,t,rfl,rfl⟩
  ·exact wpAny_pyHash_int h
  ·exact wpAny_pyHash_str h
 eqBool:=fun hu hv h=>by
  rcases jJ hu with⟨i,t,rfl,rfl⟩ |⟨x,t,rfl,rfl⟩
  ·rcases jJ hv with⟨j,u,rfl,rfl⟩ |⟨y,u,rfl,rfl⟩
   ·rw[Te] at h;exact wpAny_eqBool_int h
   ·rw[Tf] at h;exact SeqAt.EqAt.int_str i t y u _ _ _ _ h
  ·rcases jJ hv with⟨j,u,rfl,rfl⟩ |⟨y,u,rfl,rfl⟩
   ·rw[Tg] at h;exact SeqAt.EqAt.str_int x t j u _ _ _ _ h
   ·rw[Th] at h;exact wpAny_eqBool_str h
 «strs»:=fun k x t v h=>by
  rcases jJ h with⟨i,u,rfl,e⟩ |⟨y,u,rfl,e⟩
  ·exact nomatch e
  ·injection e with e1 _
   subst e1;cases v<;>rfl
theorem Of(prog:Program)(w:World)(i:Int)(t:Tok):(dJ prog w).is (.inl i) (.int i t)=true:=Pl i t
theorem Og(prog:Program)(w:World)(x:Str)(t:Tok):(dJ prog w).is (.inr x) (.str x t)=true:=Pn x t
inductive V where
 |aN |bl (b:Bool) |int (i:Int) |str (x:Str) |eU (b:Array UInt8) |lW (b:UInt64) |ref (a:Addr) |ty (n:String)
 deriving DecidableEq
def RelV:V->Value->Prop
 | .aN,u=>u=Value.none
 | .bl b,u=>u=Value.bool b
 | .int i,u=> ∃t,u=Value.int i t
 | .str x,u=> ∃t,u=Value.str x t
 | .eU b,u=> ∃t,u=Value.bytes b t
 | .lW b,u=> ∃t,u=Value.float b t
 | .ref a,u=>u=Value.ref a
 | .ty n,u=>u=Value.type n
abbrev Vals:List V->List Value->Prop:=Paired RelV
theorem Vals.length{xs:List V}{us:List Value}(r:Vals xs us):xs.length=us.length:=Paired.length r
theorem Vals.get: ∀{xs:List V}{us:List Value}{i:Nat}{x:V},Vals xs us->xs[i]? =some x-> ∃u,us[i]? =some u/\RelV x u
 |_,_,_,_,.nil,e=>by simp at e
 |_,_,0,_,.cons r _,e=>by simp at e;subst e;exact⟨_,rfl,r⟩
 |_,_,i+1,x,.cons _ t,e=>by
  obtain⟨u,h1,h2⟩:=Vals.get (i:=i) (x:=x) t (by simpa using e);exact⟨u,by simpa using h1,h2⟩
theorem Vals.set{x:V}{u:Value}(r:RelV x u): ∀{xs:List V}{us:List Value}(i:Nat),Vals xs us->Vals (xs.set i x) (us.set i u)
 |_,_,_,.nil=> .nil
 |_,_,0,.cons _ t=> .cons r t
 |_,_,i+1,.cons q t=> .cons q (Vals.set r i t)
theorem Vals.append: ∀{xs ys:List V}{us ws:List Value},Vals xs us->Vals ys ws->Vals (xs++ys) (us++ws)
 |_,_,_,_,.nil,s=>s
 |_,_,_,_,.cons r t,s=> .cons r (Vals.append t s)
theorem Vals.take: ∀{xs:List V}{us:List Value}(n:Nat),Vals xs us->Vals (xs.take n) (us.take n)
 |_,_,0,_=> .nil
 |_,_,_+1,.nil=> .nil
 |_,_,n+1,.cons r t=> .cons r (Vals.take n t)
theorem Vals.drop: ∀{xs:List V}{us:List Value}(n:Nat),Vals xs us->Vals (xs.drop n) (us.drop n)
 |_,_,0,r=>r
 |_,_,_+1,.nil=> .nil
 |_,_,n+1,.cons _ t=>Vals.drop n t
def di:Option V->Option Value->Prop
 |some v,some u=>RelV v u
 |none,none=>True
 |_,_=>False
def KV{κ:Type}:List (κ×V)->List (κ×Value)->Prop:=Paired fun(p:κ×V) (q:κ×Value)=>p.1=q.1/\RelV p.2 q.2
def kV:Key->V
 | .inl i=> .int i
 | .inr x=> .str x
inductive HO where
 |lst (xs:List V)
 |tup (xs:List V)
 |dK (af:List (Key×V)) |dT (af:List (List Key×V))
 |set (S:Int->Bool) (n:Nat)
 |ins (C dx:Addr) (fs:List (Str×V))
 |own (x:Addr)
 |xd (fs:List (Str×V))
 |met (f x:Addr)
 |Be (lo hi:Int)
 |dk (o:Obj) (u:HO)
 |nO (ps:Array Value)
 |ext (φ:Heap->Prop)
abbrev Hp:=Addr->Option HO
def upd(H:Hp)(a:Addr)(o:HO):Hp:=fun b=>if b=a then some o else H b
theorem au{H:Hp}{a:Addr}{o:HO}:upd H a o a=some o:=by unfold upd;rw[if_pos rfl]
theorem aj{H:Hp}{a b:Addr}{o:HO}(h:b≠a):upd H a o b=H b:=by unfold upd;rw[if_neg h]
theorem IF{H:Hp}{a:Addr}{o u:HO}:upd (upd H a o) a u=upd H a u:=by
 funext b;unfold upd;split<;>rfl
theorem UK{H:Hp}{a b:Addr}{o u:HO}(h:H a=some o)(h':H b=some u)(d:o≠u):a≠b:=by
 intro e;subst e;rw[h] at h';exact d (Option.some.inj h')
theorem aR{H:Hp}{a b:Addr}{o:HO}(h:H a=some o)(h':H b=none):a≠b:=by
 intro e;subst e;rw[h] at h';cases h'
section
variable(P:Program)(w:World)
def bG(H:Hp)(h:Heap)(a:Addr):HO->Prop
 | .lst xs=>xs.length<=sizeLine/\ ∃(aq:List Value)(n:Nat),Vals xs aq/\h.get? a=some {cls:= .type "list",data:= .seq aq.toArray n}
 | .tup xs=>xs.length<=sizeLine/\ ∃aq:List Value,Vals xs aq/\IsTup h a aq.toArray
 | .dK af=>af.length<=sizeLine/\(a==sysModules)=false/\ ∃vs,KV af vs/\h.DictOf (dJ P w) a vs
 | .dT af=>af.length<=sizeLine/\(a==sysModules)=false/\ ∃xs:List (List Key×Addr×Value),
   Paired (fun(p:List Key×V) (q:List Key×Addr×Value)=>p.1=q.1/\H q.2.1=some (.tup (p.1.map kV))/\RelV p.2 q.2.2) af xs/\
   ∃o es ep,h.get? a=some o/\o.ExactDict/\o.data= .dict es ep/\es.toList=xs.map (entryOfKey (tupleKind (dJ P w)))/\(xs.map (·.1)).Nodup
 | .set S n=>h.SetOf (intKind P w) a S n
 | .ins C dx fs=>H dx=some (.own a)/\fs.length<=1000/\dx≠a/\h.get? a=some (PySem.W.instObj C dx)/\
   ∃mA,h.Ns1 dx mA/\(∀f,di (fs.lookup f) (mA f))/\PySem.Within mA (fs.map (·.1))
 | .own _=> ∃o,h.get? a=some o
 | .xd fs=> ∃mA,h.Ns1 a mA/\ ∀f,di (fs.lookup f) (mA f)
 | .Be lo hi=> ∃t u v,h.get? a=some {cls:= .type "range",data:= .fields #[.int lo t,.int hi u,.int 1 v]}
 | .dk o u=>h.get? a=some o/\bG H h a u
 | .nO ps=>h.get? a=some {cls:= .none,data:= .fields ps}
 | .met f x=>h.get? a=some (PySem.W.methodObj (.ref f) (.ref x))
 | .ext φ=>φ h/\(∃o,h.get? a=some o)/\ ∀h1 h2:Heap,φ h1->(∀o,h1.get? a=some o->h2.get? a=some o)->φ h2
def bY(H:Hp)(h:Heap):Prop:= ∀a o,H a=some o->bG P w H h a o
end
section
variable{P:Program}{w:World}{H H':Hp}{h h':Heap}{a:Addr}{o:HO}
theorem bG.lt(x:bG P w H h a o):a<h.objs.size:=by
 cases o with
 |lst xs=>obtain⟨_,_,_,_,e⟩:=x;exact Heap.lt_size e
 |tup xs=>obtain⟨_,_,_,p⟩:=x;exact p.lt
 |dK af=>obtain⟨_,_,_,_,o,_,_,e,_⟩:=x;exact Heap.lt_size e
 |dT af=>obtain⟨_,_,_,_,o,_,_,e,_⟩:=x;exact Heap.lt_size e
 |set S n=>obtain⟨o,_,_,_,e,_⟩:=x;exact Heap.lt_size e
 |ins C dx fs=>obtain⟨_,_,_,e,_⟩:=x;exact Heap.lt_size e
 |own y=>obtain⟨_,e⟩:=x;exact Heap.lt_size e
 |xd fs=>obtain⟨_,⟨_,_,_,e,_⟩,_⟩:=x;exact Heap.lt_size e
 |Be lo hi=>obtain⟨_,_,_,e⟩:=x;exact Heap.lt_size e
 |dk ob u=>obtain⟨e,_⟩:=x;exact Heap.lt_size e
 |nO ps=>exact Heap.lt_size (show h.get? a=some _ from x)
 |met f y=>exact Heap.lt_size (show h.get? a=some _ from x)
 |ext φ=>obtain⟨_,⟨_,e⟩,_⟩:=x;exact Heap.lt_size e
theorem Paired.Ah{α β:Type}{F G:α->β->Prop}: ∀{l₁:List α}{l₂:List β},Paired F l₁ l₂->(∀a b,F a b->G a b)->Paired G l₁ l₂
 |_,_,.nil,_=> .nil
 |_,_,.cons r t,f=> .cons (f _ _ r) (Paired.Ah t f)
theorem bG.ia(x:bG P w H h a o)(k: ∀b u,(b=a∨H b=some (.own a))->h.get? b=some u->h'.get? b=some u)
  (ho: ∀b,H b=some (.own a)->H' b=some (.own a)) (ht: ∀b xs,H b=some (.tup xs)->H' b=some (.tup xs)):bG P w H' h' a o:=by
 induction o with
 |lst xs=>obtain⟨z,aq,n,r,e⟩:=x;exact⟨z,aq,n,r,k _ _ (.inl rfl) e⟩
 |tup xs=>obtain⟨z,aq,r,ob,e,c⟩:=x;exact⟨z,aq,r,ob,k _ _ (.inl rfl) e,c⟩
 |dK af=>obtain⟨z,y,vs,r,ob,es,ep,e,c⟩:=x;exact⟨z,y,vs,r,ob,es,ep,k _ _ (.inl rfl) e,c⟩
 |dT af=>
  obtain⟨z,y,xs,r,ob,es,ep,e,c⟩:=x;exact⟨z,y,xs,Paired.Ah r fun p q z=>⟨z.1,ht _ _ z.2.1,z.2.2⟩,ob,es,ep,k _ _ (.inl rfl) e,c⟩
 |set S n=>obtain⟨ob,es,ep,t,e,c⟩:=x;exact⟨ob,es,ep,t,k _ _ (.inl rfl) e,c⟩
 |ins C dx fs=>
  obtain⟨d,z,ne,e,mA,⟨od,es,ep,e2,c⟩,r⟩:=x;exact⟨ho _ d,z,ne,k _ _ (.inl rfl) e,mA,⟨od,es,ep,k _ _ (.inr d) e2,c⟩,r⟩
 |own y=>obtain⟨ob,e⟩:=x;exact⟨ob,k _ _ (.inl rfl) e⟩
 |xd fs=>obtain⟨mA,⟨od,es,ep,e,c⟩,r⟩:=x;exact⟨mA,⟨od,es,ep,k _ _ (.inl rfl) e,c⟩,r⟩
 |Be lo hi=>obtain⟨t,u,v,e⟩:=x;exact⟨t,u,v,k _ _ (.inl rfl) e⟩
 |dk ob u ih=>obtain⟨e,q⟩:=x;exact⟨k _ _ (.inl rfl) e,ih q⟩
 |nO ps=>
  have e:h.get? a=some {cls:= .none,data:= .fields ps}:=x;show h'.get? a=some {cls:= .none,data:= .fields ps};exact k a _ (.inl rfl) e
 |met f y=>
  have e:h.get? a=some (PySem.W.methodObj (.ref f) (.ref y)):=x;show h'.get? a=some (PySem.W.methodObj (.ref f) (.ref y));exact k a _ (.inl rfl) e
 |ext φ=>obtain⟨p,⟨o,e⟩,st⟩:=x;exact⟨st _ _ p fun o q=>k _ _ (.inl rfl) q,⟨o,k _ _ (.inl rfl) e⟩,st⟩
theorem bY.lt(x:bY P w H h)(e:H a=some o):a<h.objs.size:=(x a o e).lt
theorem bY.fresh(x:bY P w H h)(e:h.objs.size<=a):H a=none:=by
 cases q:H a with
 |none=>rfl
 |some u=>exact absurd (Nat.lt_of_lt_of_le (x.lt q) e) (Nat.lt_irrefl _)
theorem bY.kept(x:bY P w H h)(k: ∀b u,h.get? b=some u->h'.get? b=some u):bY P w H h':=fun a o e=>
 (x a o e).ia (fun b u _ q=>k b u q) (fun _ q=>q) fun _ _ q=>q
theorem bY.laid(x:bY P w H h)(k: ∀b u,h.get? b=some u->h'.get? b=some u)(hp:h.objs.size<=a)(new:bG P w (upd H a o) h' a o):bY P w (upd H a o) h':=fun b u e=>by
 have hn:=x.fresh hp
 by_cases hb:b=a
 ·subst hb;rw[au] at e;cases e;exact new
 ·rw[aj hb] at e;exact(x b u e).ia (fun c v _ q=>k c v q) (fun c q=>by rw[aj (aR q hn)];exact q) fun c xs q=>by rw[aj (aR q hn)];exact q
end
def Rd(H:Hp)(a:Addr)(u:HO):Prop:=H a=some u∨ ∃o,H a=some (.dk o u)
theorem Rd.ok{P:Program}{w:World}{H:Hp}{h:Heap}{a:Addr}{u:HO}(r:Rd H a u)(x:bY P w H h):bG P w H h a u:=by
 rcases r with r |⟨o,r⟩
 ·exact x a u r
 ·obtain⟨_,q⟩:=x a _ r;exact q
def sX:Option HO->Prop
 |some (.lst _)=>True
 |some (.dK _)=>True
 |some (.dT _)=>True
 |some (.set _ _)=>True
 |some (.ins _ _ _)=>True
 |some (.ext _)=>True
 |_=>False
section
variable{P:Program}{w:World}{H:Hp}{h h':Heap}{x e:Addr}{o':HO}
theorem bY.write(ok:bY P w H h)(mu:sX (H x))(he:e=x∨H e=some (.own x))(k: ∀b u,b≠e->h.get? b=some u->h'.get? b=some u)(p4: ∃u,h'.get? e=some u)
  (new:bG P w (upd H x o') h' x o'):bY P w (upd H x o') h':=fun b u q=>by
 have KJ: ∀c y,H c=some (.own y)->c≠x:=fun c y r z=>by subst z;rw[r] at mu;exact mu
 have VW: ∀c xs,H c=some (.tup xs)->c≠x:=fun c xs r z=>by subst z;rw[r] at mu;exact mu
 by_cases hb:b=x
 ·subst hb;rw[au] at q;cases q;exact new
 ·rw[aj hb] at q
  by_cases hbe:b=e
  ·have q':H b=some (.own x):=by
    rcases he with z |z
    ·exact absurd (hbe.trans z) hb
    ·rw[hbe];exact z
   rw[q] at q';cases q';obtain⟨v,hv⟩:=p4;exact⟨v,by rw[hbe];exact hv⟩
  ·refine(ok b u q).ia (fun c v hc r=>k c v ?_ r) (fun c r=>by rw[aj (KJ c b r)];exact r) fun c xs r=>by rw[aj (VW c xs r)];exact r
   rcases hc with rfl |hc
   ·exact hbe
   ·rintro rfl;rcases he with z |z
    ·exact KJ c b hc z
    ·rw[hc] at z;cases z;exact hb rfl
end
structure Un(fs ex:List Addr)(H H':Hp)(h h':Heap):Prop where
 keep: ∀b o,h.get? b=some o->H b=none->b∉fs->b∉ex->h'.get? b=some o
 slot: ∀b o,h.get? b=some o->H b=none->b∈fs->b∉ex-> ∃sl,h'.get? b=some {o with slots:=sl}
 free: ∀b o,h.get? b=some o->H b=none->b∉ex->H' b=none
 there: ∀b o,h.get? b=some o->b∉ex-> ∃o',h'.get? b=some o'
 ic: ∀b xs,H b=some (.tup xs)->H' b=some (.tup xs)
 gm: ∀b o u,H b=some (.dk o u)->H' b=some (.dk o u)
 ib: ∀b ps,H b=some (.nO ps)-> ∃more,H' b=some (.nO (ps++more))
section
variable{fs lX ex YN:List Addr}{H H1 H2:Hp}{h h1 h2 h':Heap}{a x e:Addr}{o:HO}
theorem Un.any(u:Un fs ex H H1 h h1){b:Addr}{ob:Obj}(q:h.get? b=some ob)(n:H b=none)(hx:b∉ex): ∃sl,h1.get? b=some {ob with slots:=sl}:=by
 by_cases hb:b∈fs
 ·exact u.slot b ob q n hb hx
 ·exact⟨ob.slots,u.keep b ob q n hb hx⟩
theorem Un.kept(k: ∀b u,h.get? b=some u->h'.get? b=some u):Un fs ex H H h h':=
 ⟨fun b ob q _ _ _=>k b ob q,fun b ob q _ _ _=>⟨ob.slots,k b ob q⟩,fun _ _ _ n _=>n,fun b ob q _=>⟨ob,k b ob q⟩,fun _ _ q=>q,fun _ _ _ q=>q,fun _ ps q=>⟨#[],by rw[q];simp⟩⟩
theorem Un.refl:Un fs ex H H h h:=Un.kept fun _ _ q=>q
theorem Un.laid(k: ∀b u,h.get? b=some u->h'.get? b=some u)(hp:h.objs.size<=a)(hn:H a=none):Un fs ex H (upd H a o) h h' where
 keep:=fun b u q _ _ _=>k b u q
 slot:=fun b u q _ _ _=>⟨u.slots,k b u q⟩
 free:=fun b u q n _=>by rw[aj (Nat.ne_of_lt (Nat.lt_of_lt_of_le (Heap.lt_size q) hp))];exact n
 there:=fun b u q _=>⟨u,k b u q⟩
 ic:=fun b xs q=>by rw[aj (aR q hn)];exact q
 gm:=fun b u xs q=>by rw[aj (aR q hn)];exact q
 ib:=fun b ps q=>⟨#[],by rw[aj (aR q hn),q];simp⟩
theorem Un.write(mu:sX (H x))(he:e=x∨H e=some (.own x))(k: ∀b u,b≠e->h.get? b=some u->h'.get? b=some u)(p4: ∃u,h'.get? e=some u):Un fs ex H (upd H x o) h h':=by
 have hx: ∀b,H b=none->b≠x:=fun b n z=>by subst z;rw[n] at mu;exact mu
 have hb: ∀b,H b=none->b≠e:=fun b n z=>by
  subst z;rcases he with r |r
  ·exact hx b n r
  ·rw[n] at r;cases r
 have hm: ∀b u,H b=some u-> ¬sX (some u)->b≠x:=fun b u q nm z=>by subst z;rw[q] at mu;exact nm mu
 refine⟨fun b u q n _ _=>k b u (hb b n) q,fun b u q n _ _=>⟨u.slots,k b u (hb b n) q⟩,fun b u q n _=>by rw[aj (hx b n)];exact n,fun b u q _=>?_,
  fun b xs q=>by rw[aj (hm b _ q fun z=>z)];exact q,fun b u xs q=>by rw[aj (hm b _ q fun z=>z)];exact q,fun b ps q=>⟨#[],by rw[aj (hm b _ q fun z=>z),q];simp⟩⟩
 by_cases hbe:b=e
 ·subst hbe;exact p4
 ·exact⟨u,k b u hbe q⟩
end
def xl(h:Heap)(H:Hp):List Addr:=(List.range h.objs.size).filter fun a=>(H a).isSome
def j9(h:Heap)(H:Hp):Heap:=PySem.W.hideAll h (xl h H)
theorem Pf(h:Heap)(H:Hp):(j9 h H).objs.size=h.objs.size:=PySem.W.hideAll_size _ _
theorem Qs{h:Heap}{H:Hp}{b:Addr}{o:Obj}(e:h.get? b=some o)(n:H b=none):(j9 h H).get? b=some o:=
 PySem.W.hideAll_get _ e fun hm=>by
  have q:(H b).isSome=true:=(List.mem_filter.mp hm).2;rw[n] at q;simp at q
theorem RZ{h:Heap}{H:Hp}{b:Addr}{o:Obj}(e:(j9 h H).get? b=some o):h.get? b=some o/\H b=none:=by
 have e':h.get? b=some o:=PySem.W.of_hideAll (xl h H) e;refine⟨e',?_⟩;cases q:H b with
 |none=>rfl
 |some x=>
  have hm:b∈xl h H:=List.mem_filter.mpr ⟨List.mem_range.mpr (Heap.lt_size e'),by simp [q]⟩;have z:(j9 h H).get? b=none:=PySem.W.hideAll_none (xl h H) hm;rw[z] at e;cases e
structure Mod(K:FG)(mg:Str->Option Value)(base:Heap):Prop where
 l7:K.In base
 glob:base.Ns mainGlobals mg
 blt: ∃mb,base.Ns builtinsNs mb/\ ∀x:Str,x≠"__name__"->mb x=bootBuiltins x
 nolimit:base.NoLimit
structure Cx where
 prog:Program
 w:World
 K:FG
 mg:Str->Option Value
 base:Heap
 A:Around
 N:List Str
 dF:Shared
 sP:Hp
 env:Env
 outer:List Env
 stack:List Env
 ex:List Addr
 fn:Str->Bool
 calm:Bool
 pn:List (Addr×Obj)
 xe:Value->Shared->Prop
def cK(l:List Env):List Addr:=l.filterMap (·.frame)
abbrev Cx.fs(X:Cx):List Addr:=cK X.outer
def pY(sc:Scope)(x:Str):Prop:=sc.names.lookup x=some .local∨sc.names.lookup x=some .cell∨sc.names.lookup x=some .free
def Loc(sc:Scope)(x:Str):Prop:=sc.names.lookup x=some .local∨sc.names.lookup x=some .cell
def Look(env:Env)(h:Heap)(m:Str->Option Value)(x:Str)(u:Value):Prop:=
 (env.kindOf x=some .local/\m x=some u)∨((env.kindOf x=some .cell∨env.kindOf x=some .free)/\ ∃c,env.cells.lookup x=some c/\h.IsCell c (some u))
structure Cx.Ok(X:Cx):Prop where
 mod:Mod X.K X.mg X.base
 kind:X.env.scope.kind= .function
 glob:X.env.globals=mainGlobals
 blt:X.env.builtins=builtinsNs
 above:X.dF.heap.objs.size<=X.env.locals
 inj: ∀x y c,X.env.cells.lookup x=some c->X.env.cells.lookup y=some c->x=y
 has: ∀x,(X.env.kindOf x=some .cell∨X.env.kindOf x=some .free)-> ∃c,X.env.cells.lookup x=some c
 lR: ∀x c,X.fn x=true->X.env.cells.lookup x=some c->X.dF.heap.objs.size<=c
 hd:X.calm=true->X.A.handled=none
 frames:X.A.frames=some X.stack
 fk:X.stack=X.outer∨(X.stack=X.env::X.outer/\X.env.frame=some X.env.locals)
 km: ∀b∈X.ex,b≠X.env.locals/\ ∀x c,X.env.cells.lookup x=some c->c≠b
 bs: ∀b o,X.base.get? b=some o->X.dF.heap.get? b=some o/\X.sP b=none
 ig:X.base.objs.size<=X.dF.heap.objs.size
 lO: ∀b o,X.base.get? b=some o->b∉X.ex
 j7: ∀b∈X.ex,b∉X.fs
 fA:X.dF.heap.FunFrames X.base X.outer
 jy: ∀b∈X.fs,X.sP b=none
structure Inv(X:Cx)(aa:List (Addr×Obj))(σ:List (Option V))(H:Hp)(s:Shared):Prop where
 ok:X.Ok
 os:s.os=X.dF.os
 bare:AllBare s.gens
 base:Un X.fs X.ex X.sP H X.dF.heap s.heap
 loc: ∃m,s.heap.Ns X.env.locals m/\ ∀(i:Nat)(x:Str)(v:V),X.N[i]? =some x->σ[i]? =some (some v)->pY X.env.scope x-> ∃u,RelV v u/\Look X.env s.heap m x u
 cell: ∀x c,X.env.cells.lookup x=some c-> ∃v,s.heap.IsCell c v
 free:H X.env.locals=none
 eB: ∀x c,X.env.cells.lookup x=some c->H c=none
 pin: ∀p∈X.pn++aa,s.heap.get? p.1=some p.2/\H p.1=none/\p.1≠X.env.locals/\p.1∉X.fs/\ ∀v,p.2.data≠ .cell v
 aw:bY X.prog X.w H s.heap
 len:σ.length=X.N.length
section
variable{X:Cx}{aa:List (Addr×Obj)}{σ:List (Option V)}{H H':Hp}{s:Shared}{h':Heap}
theorem Cx.Ok.wj(ok:X.Ok){b:Addr}{o:Obj}(e:X.base.get? b=some o):b∉X.fs:=fun hb=>by
 have:=(ok.fA.mem hb).1;rw[e] at this;cases this
theorem Inv.bs(I:Inv X aa σ H s): ∀b o,X.base.get? b=some o->s.heap.get? b=some o/\H b=none:=fun b o e=>
 ⟨I.base.keep b o (I.ok.bs b o e).1 (I.ok.bs b o e).2 (I.ok.wj e) (I.ok.lO b o e),I.base.free b o (I.ok.bs b o e).1 (I.ok.bs b o e).2 (I.ok.lO b o e)⟩
theorem Inv.bk(I:Inv X aa σ H s): ∀b o,X.base.get? b=some o->s.heap.get? b=some o:=fun b o e=>(I.bs b o e).1
theorem Inv.mod(I:Inv X aa σ H s):Mod X.K X.mg X.base:=I.ok.mod
theorem Inv.bN(I:Inv X aa σ H s):X.K.In s.heap:=I.ok.mod.l7.keeps I.bk
theorem Inv.lt(I:Inv X aa σ H s):X.env.locals<s.heap.objs.size:=let⟨_,hn,_⟩:=I.loc;hn.lt
theorem Inv.sz(I:Inv X aa σ H s):X.dF.heap.objs.size<=s.heap.objs.size:=Nat.le_trans I.ok.above (Nat.le_of_lt I.lt)
theorem Inv.VS(I:Inv X aa σ H s){a:Addr}(h:s.heap.objs.size<=a):a∉X.fs:=fun hb=>by
 obtain⟨_,o,ho,_⟩:=I.ok.fA.mem hb;exact absurd (Nat.lt_of_lt_of_le (Heap.lt_size ho) (Nat.le_trans I.sz h)) (Nat.lt_irrefl _)
theorem Inv.iW(I:Inv X aa σ H s): ∀x c,X.env.cells.lookup x=some c->c≠X.env.locals:=fun x c e z=>by
 obtain⟨v,o,ho,hd⟩:=I.cell x c e;obtain⟨m,⟨o',es,ep,fX,AG,_⟩,_⟩:=I.loc;rw[z,fX] at ho;cases ho;rw[AG] at hd;cases hd
theorem Inv.fA(I:Inv X aa σ H s):s.heap.FunFrames X.base X.outer:=by
 have all: ∀(l:List Env),(∀b∈cK l,b∈X.fs)->X.dF.heap.FunFrames X.base l->s.heap.FunFrames X.base l:=by
  intro l
  induction l with
  |nil=>intro _ _;trivial
  |cons env r ih=>
   intro hs hl;obtain⟨hk,⟨L,o,hf,hn,ho,hd⟩,hr⟩:=hl;have hL:L∈X.fs:=hs L (by unfold cK;rw[List.filterMap_cons,hf];exact List.mem_cons_self);obtain⟨sl,e⟩:=I.base.slot L o ho (I.ok.jy L hL) hL fun z=>I.ok.j7 L z hL;exact⟨hk,⟨L,_,hf,hn,e,hd⟩,ih (fun b hb=>hs b (by unfold cK;rw[List.filterMap_cons,hf];exact List.mem_cons_of_mem _ hb)) hr⟩
 exact all X.outer (fun _ hb=>hb) I.ok.fA
theorem Inv.stack(I:Inv X aa σ H s):s.heap.FunFrames X.base X.stack:=by
 rcases I.ok.fk with e |⟨e,hf⟩
 ·rw[e];exact I.fA
 ·rw[e];obtain⟨m,hn,_⟩:=I.loc;refine .cons (by rw[I.ok.kind];decide) hf hn ?_ I.fA;exact Heap.get?_none_of_le (Nat.le_trans I.ok.ig I.ok.above)
theorem Inv.pH(I:Inv X aa σ H s): ∀b∈cK X.stack,b∈X.env.locals::X.fs:=fun b hb=>by
 rcases I.ok.fk with e |⟨e,hf⟩
 ·rw[e] at hb;exact List.mem_cons_of_mem _ hb
 ·rw[e] at hb;unfold cK at hb;rw[List.filterMap_cons,hf] at hb;exact hb
theorem Inv.vF(I:Inv X aa σ H s): ∀b∈cK X.stack,H b=none:=fun b hb=>by
 rcases List.mem_cons.mp (I.pH b hb) with e |hb
 ·rw[e];exact I.free
 ·obtain⟨_,o,ho,_⟩:=I.ok.fA.mem hb;exact I.base.free b o ho (I.ok.jy b hb) fun z=>I.ok.j7 b z hb
theorem Inv.step{g':Array GenState}{t':Nat}{d':Drawn}{ch:List Addr}(I:Inv X aa σ H s)
  (ij: ∀b∈ch,(b∈X.ex∨X.dF.heap.objs.size<=b)/\b≠X.env.locals/\(∀x c,X.env.cells.lookup x=some c->c≠b)/\ ∀p∈X.pn++aa,p.1≠b)
  (keep: ∀b o,b≠X.env.locals->b∉X.fs->b∉ch->s.heap.get? b=some o->H b=none->h'.get? b=some o)
  (slot: ∀b o,b≠X.env.locals->b∈X.fs->b∉ch->s.heap.get? b=some o->H b=none-> ∃sl,h'.get? b=some {o with slots:=sl}) (free: ∀b o,b∉ch->s.heap.get? b=some o->H b=none->H' b=none)
  (there: ∀b o,b∉ch->s.heap.get? b=some o-> ∃o',h'.get? b=some o')
  (ic: ∀b xs,H b=some (.tup xs)->H' b=some (.tup xs)) (gm: ∀b o u,H b=some (.dk o u)->H' b=some (.dk o u)) (ib: ∀b ps,H b=some (.nO ps)-> ∃more,H' b=some (.nO (ps++more)))
  (ns: ∀m,s.heap.Ns X.env.locals m->h'.Ns X.env.locals m) (aw:bY X.prog X.w H' h') (hg:AllBare g'):
  Inv X aa σ H' {s with heap:=h',gens:=g',drawn:=d',toks:=t'}:=by
 have L7: ∀b o,X.dF.heap.get? b=some o->b≠X.env.locals:=fun b o e=>Nat.ne_of_lt (Nat.lt_of_lt_of_le (Heap.lt_size e) I.ok.above);have w9: ∀b o,X.dF.heap.get? b=some o->b∉X.ex->b∉ch:=fun b o e hx hb=>by
  rcases(ij b hb).1 with z |z
  ·exact hx z
  ·exact absurd (Nat.lt_of_lt_of_le (Heap.lt_size e) z) (Nat.lt_irrefl _)
 have sj: ∀x c,X.env.cells.lookup x=some c-> ∀v,s.heap.IsCell c v->h'.IsCell c v:=fun x c e v ⟨o,ho,hd⟩=>by
  have ud:c∉ch:=fun z=>(ij c z).2.2.1 x c e rfl
  by_cases hc:c∈X.fs
  ·obtain⟨sl,q⟩:=slot c o (I.iW x c e) hc ud ho (I.eB x c e);exact⟨_,q,hd⟩
  ·exact⟨o,keep c o (I.iW x c e) hc ud ho (I.eB x c e),hd⟩
 refine⟨I.ok,I.os,hg,⟨fun b o e n hb hx=>?_,fun b o e n hb hx=>?_,fun b o e n hx=>?_,fun b o e hx=>?_,fun b xs e=>ic b xs (I.base.ic b xs e),fun b o xs e=>gm b o xs (I.base.gm b o xs e),fun b ps e=>?_⟩,?_,fun x c e=>?_,?_,fun x c e=>?_,fun p hp=>?_,aw,I.len⟩
 ·exact keep b o (L7 b o e) hb (w9 b o e hx) (I.base.keep b o e n hb hx) (I.base.free b o e n hx)
 ·obtain⟨sl,e1⟩:=I.base.slot b o e n hb hx;obtain⟨nL,e2⟩:=slot b _ (L7 b o e) hb (w9 b o e hx) e1 (I.base.free b o e n hx);exact⟨nL,e2⟩
 ·obtain⟨o',e1⟩:=I.base.there b o e hx;exact free b o' (w9 b o e hx) e1 (I.base.free b o e n hx)
 ·obtain⟨o',e1⟩:=I.base.there b o e hx;exact there b o' (w9 b o e hx) e1
 ·obtain⟨m1,e1⟩:=I.base.ib b ps e;obtain⟨m2,e2⟩:=ib b _ e1;exact⟨m1++m2,by rw[e2,Array.append_assoc]⟩
 ·obtain⟨m,hn,hl⟩:=I.loc;refine⟨m,ns m hn,fun i x v e1 e2 e3=>?_⟩;obtain⟨u,r,l⟩:=hl i x v e1 e2 e3;refine⟨u,r,?_⟩;rcases l with l |⟨k,c,e,z⟩
  ·exact .inl l
  ·exact .inr ⟨k,c,e,sj x c e _ z⟩
 ·obtain⟨v,z⟩:=I.cell x c e;exact⟨v,sj x c e v z⟩
 ·obtain⟨m,⟨o,_,_,ho,_⟩,_⟩:=I.loc;exact free _ o (fun z=>(ij _ z).2.1 rfl) ho I.free
 ·obtain⟨v,o,ho,hd⟩:=I.cell x c e;exact free c o (fun z=>(ij c z).2.2.1 x c e rfl) ho (I.eB x c e)
 ·obtain⟨e,n,ne,nf,d⟩:=I.pin p hp;have ud:p.1∉ch:=fun z=>(ij p.1 z).2.2.2 p hp rfl;exact⟨keep p.1 p.2 ne nf ud e n,free p.1 p.2 ud e n,ne,nf,d⟩
theorem Inv.un{t':Nat}(I:Inv X aa σ H s)(u:Un X.fs [] H H' s.heap h')(aw:bY X.prog X.w H' h'):Inv X aa σ H' {s with heap:=h',toks:=t'}:=by
 obtain⟨m,⟨o,es,ep,ho,r⟩,_⟩:=id I.loc;obtain⟨sl,hL⟩:=u.any ho I.free (by simp);exact I.step (g':=s.gens) (d':=s.drawn) (ch:=[]) (fun _ z=>nomatch z) (fun b o _ hb _ e n=>u.keep b o e n hb (by simp)) (fun b o _ hb _ e n=>u.slot b o e n hb (by simp)) (fun b o _ e n=>u.free b o e n (by simp)) (fun b o _ e=>u.there b o e (by simp)) u.ic u.gm u.ib (fun m' hm=>by
  obtain⟨o',wI,wH,fX,r'⟩:=hm;rw[ho] at fX;cases fX;exact⟨_,wI,wH,hL,r'⟩) aw I.bare
theorem Inv.call{g':Array GenState}{t':Nat}{d':Drawn}{ch:List Addr}(I:Inv X aa σ H s)(u:Un (cK X.stack) ch H H' s.heap h')(aw:bY X.prog X.w H' h')(hg:AllBare g')
  (ij: ∀b∈ch,(b∈X.ex∨X.dF.heap.objs.size<=b)/\b≠X.env.locals/\(∀x c,X.env.cells.lookup x=some c->c≠b)/\ ∀p∈X.pn++aa,p.1≠b):
  Inv X aa σ H' {s with heap:=h',gens:=g',drawn:=d',toks:=t'}:=by
 obtain⟨m,⟨o,es,ep,ho,r⟩,_⟩:=id I.loc;obtain⟨sl,hL⟩:=u.any ho I.free fun z=>(ij _ z).2.1 rfl;exact I.step (ch:=ch) ij (fun b o hL hb hc e n=>u.keep b o e n (fun z=>(List.mem_cons.mp (I.pH b z)).elim hL hb) hc) (fun b o _ _ hc e n=>u.any e n hc) (fun b o hc e n=>u.free b o e n hc) (fun b o hc e=>u.there b o e hc) u.ic u.gm u.ib (fun m' hm=>by
  obtain⟨o',wI,wH,fX,r'⟩:=hm;rw[ho] at fX;cases fX;exact⟨_,wI,wH,hL,r'⟩) aw hg
theorem Inv.turned{t':Nat}{it:Addr}(I:Inv X aa σ H s)(k: ∀b o,b≠it->s.heap.get? b=some o->h'.get? b=some o)(hn:H it=none)(hL:it≠X.env.locals)
  (h1:it∈X.ex∨X.dF.heap.objs.size<=it) (h2: ∀x c,X.env.cells.lookup x=some c->c≠it) (h3: ∀p∈X.pn++aa,p.1≠it):Inv X aa σ H {s with heap:=h',toks:=t'}:=by
 have uf: ∀b u,H b=some u->b≠it:=fun b u e z=>by rw[z,hn] at e;cases e
 refine I.step (g':=s.gens) (d':=s.drawn) (ch:=[it]) (fun b hb=>?_) (fun b o _ _ hc e _=>k b o (fun z=>hc (by simp [z])) e) (fun b o _ _ hc e _=>⟨o.slots,k b o (fun z=>hc (by simp [z])) e⟩) (fun _ _ _ _ n=>n)
  (fun b o hc e=>⟨o,k b o (fun z=>hc (by simp [z])) e⟩) (fun _ _ e=>e) (fun _ _ _ e=>e) (fun b ps e=>⟨#[],by rw[e];simp⟩) (fun m hm=>?_) (fun b u e=>?_) I.bare
 ·have e:b=it:=by simpa using hb
  subst e;exact⟨h1,hL,h2,h3⟩
 ·obtain⟨o,es,ep,ho,r⟩:=hm;exact⟨o,es,ep,k _ o (Ne.symm hL) ho,r⟩
 ·refine(I.aw b u e).ia (fun c v hc q=>k c v ?_ q) (fun _ q=>q) fun _ _ q=>q;rcases hc with z |z
  ·rw[z];exact uf b u e
  ·exact uf c _ z
theorem Inv.tok(I:Inv X aa σ H s)(t:Nat):Inv X aa σ H {s with toks:=t}:=I.un (h':=s.heap) (t':=t) Un.refl I.aw
theorem Inv.kept{t':Nat}(I:Inv X aa σ H s)(k: ∀b u,s.heap.get? b=some u->h'.get? b=some u):Inv X aa σ H {s with heap:=h',toks:=t'}:=I.un (Un.kept k) (I.aw.kept k)
theorem Inv.laid{a:Addr}{o:HO}{t':Nat}(I:Inv X aa σ H s)(k: ∀b u,s.heap.get? b=some u->h'.get? b=some u)(hp:s.heap.objs.size<=a)(new:bG X.prog X.w (upd H a o) h' a o):
  Inv X aa σ (upd H a o) {s with heap:=h',toks:=t'}:=I.un (Un.laid k hp (I.aw.fresh hp)) (I.aw.laid k hp new)
theorem Inv.write{x e:Addr}{o:HO}{t':Nat}(I:Inv X aa σ H s)(mu:sX (H x))(he:e=x∨H e=some (.own x))(k: ∀b u,b≠e->s.heap.get? b=some u->h'.get? b=some u)(p4: ∃u,h'.get? e=some u)
  (new:bG X.prog X.w (upd H x o) h' x o):Inv X aa σ (upd H x o) {s with heap:=h',toks:=t'}:=I.un (Un.write mu he k p4) (I.aw.write mu he k p4 new)
theorem Inv.weak{σ':List (Option V)}(I:Inv X aa σ H s)(hl:σ'.length=σ.length)(w: ∀(i:Nat) v,σ'[i]? =some (some v)->σ[i]? =some (some v)):Inv X aa σ' H s:=
 ⟨I.ok,I.os,I.bare,I.base,let⟨m,hn,wU⟩:=I.loc;⟨m,hn,fun i x v e1 e2 e3=>wU i x v e1 (w i v e2) e3⟩,I.cell,I.free,I.eB,I.pin,I.aw,hl.trans I.len⟩
theorem Inv.HL{lH:List (Addr×Obj)}(I:Inv X aa σ H s)(h: ∀p∈lH,s.heap.get? p.1=some p.2/\H p.1=none/\p.1≠X.env.locals/\p.1∉X.fs/\ ∀v,p.2.data≠ .cell v):Inv X lH σ H s:=
 ⟨I.ok,I.os,I.bare,I.base,I.loc,I.cell,I.free,I.eB,fun p hp=>(List.mem_append.mp hp).elim (fun z=>I.pin p (List.mem_append_left _ z)) (h p),I.aw,I.len⟩
theorem vi{N:List Str}(hN:N.Nodup){i j:Nat}{x:Str}(a:N[i]? =some x)(b:N[j]? =some x):i=j:=by
 obtain⟨h1,e1⟩:=List.getElem?_eq_some_iff.mp a;obtain⟨h2,e2⟩:=List.getElem?_eq_some_iff.mp b;exact(List.getElem_inj hN).mp (e1.trans e2.symm)
theorem yA{M:Model}{A:Around}{E:Value->Shared->Prop}{i:Nat}{x:Str}{v:V}{u:Value}{Q:Unit->Shared->Prop}(I:Inv X aa σ H s)(hN:X.N.Nodup)(hi:X.N[i]? =some x)(hx:Loc X.env.scope x)(r:RelV v u)
  (h: ∀s',Inv X aa (σ.set i (some v)) H s'->(∃a,Heap.SameBut a s.heap s'.heap/\(a=X.env.locals∨X.env.cells.lookup x=some a))->Q () s') (hf:X.fn x=true∨X.env.scope.names.lookup x=some .local:=by first |exact .inl rfl |exact .inr rfl |assumption):wpAny M A (storeName X.env x u) Q E s:=by
 obtain⟨m,hn,hl⟩:=id I.loc;have z9:(X.env.scope.kind== .class || (X.env.scope.kind== .module&&X.env.locals != X.env.globals))=false:=by rw[I.ok.kind];rfl
 have hiσ:i<σ.length:=by rw[I.len];exact(List.getElem?_eq_some_iff.mp hi).1
 have iW:=I.iW;have ID: ∀{a:Addr}{h':Heap},(∃o,s.heap.get? a=some o/\H a=none)->Heap.SameBut a s.heap h'->bY X.prog X.w H h':=fun {a h'} ha hs b ob e=>by
  obtain⟨_,_,lB⟩:=ha;refine(I.aw b ob e).ia (fun c w' hc q=>(hs.2 c ?_).trans q) (fun _ q=>q) fun _ _ q=>q;rintro rfl;rcases hc with rfl |hc
  ·rw[lB] at e;cases e
  ·rw[lB] at hc;cases hc
 rcases hx with hk |hk
 ·refine wpAny_storeName_local hk hn (fun h' LH hs=>?_) z9;obtain⟨oL,_,_,Xj,_⟩:=id hn;refine h _ ⟨I.ok,I.os,I.bare,⟨fun b o e n hb hx=>?_,fun b o e n hb hx=>?_,I.base.free,fun b o e hx=>?_,I.base.ic,I.base.gm,I.base.ib⟩,⟨_,LH,fun j y v' e1 e2 e3=>?_⟩,fun y c e=>?_,I.free,I.eB,fun p hp=>?_,ID ⟨oL,Xj,I.free⟩ hs,by simpa using I.len⟩ ⟨_,hs,.inl rfl⟩
  ·exact(hs.2 b (Nat.ne_of_lt (Nat.lt_of_lt_of_le (Heap.lt_size e) I.ok.above))).trans (I.base.keep b o e n hb hx)
  ·obtain⟨sl,e1⟩:=I.base.slot b o e n hb hx;exact⟨sl,(hs.2 b (Nat.ne_of_lt (Nat.lt_of_lt_of_le (Heap.lt_size e) I.ok.above))).trans e1⟩
  ·obtain⟨o',e1⟩:=I.base.there b o e hx;exact⟨o',(hs.2 b (Nat.ne_of_lt (Nat.lt_of_lt_of_le (Heap.lt_size e) I.ok.above))).trans e1⟩
  ·by_cases hj:j=i
   ·subst hj;rw[hi] at e1;cases e1;rw[List.getElem?_set_self hiσ] at e2;cases e2;exact⟨u,r,.inl ⟨hk,by simp⟩⟩
   ·rw[List.getElem?_set_ne (Ne.symm hj)] at e2;obtain⟨u',r',q⟩:=hl j y v' e1 e2 e3;refine⟨u',r',?_⟩;rcases q with⟨k,e⟩ |⟨k,c,e,z⟩
    ·refine .inl ⟨k,?_⟩;have:y≠x:=fun e=>hj (vi hN e1 (e▸hi));simp [this,e]
    ·exact .inr ⟨k,c,e,z.sameBut hs (iW y c e)⟩
  ·obtain⟨w',z⟩:=I.cell y c e;exact⟨w',z.sameBut hs (iW y c e)⟩
  ·obtain⟨e,n,ne,nf,d⟩:=I.pin p hp;exact⟨(hs.2 p.1 ne).trans e,n,ne,nf,d⟩
 ·have AJ:X.fn x=true:=by
   rcases hf with z |z
   ·exact z
   ·rw[z] at hk;cases hk
  obtain⟨c,hc⟩:=I.ok.has x (.inl hk);obtain⟨w',z⟩:=I.cell x c hc;refine wpAny_storeName_cell I.ok.kind hk hc z (fun h' wN hs=>?_);obtain⟨oc,LK,VD⟩:=id z;refine h {s with heap:=h'} ⟨I.ok,I.os,I.bare,⟨fun b o e n hb hx=>?_,fun b o e n hb hx=>?_,I.base.free,fun b o e hx=>?_,I.base.ic,I.base.gm,I.base.ib⟩,⟨m,hn.sameBut hs (Ne.symm (iW x c hc)),fun j y v' e1 e2 e3=>?_⟩,fun y c' e=>?_,I.free,I.eB,fun p hp=>?_,ID ⟨oc,LK,I.eB x c hc⟩ hs,by simpa using I.len⟩ ⟨c,hs,.inr hc⟩
  ·exact(hs.2 b (Nat.ne_of_lt (Nat.lt_of_lt_of_le (Heap.lt_size e) (I.ok.lR x c AJ hc)))).trans (I.base.keep b o e n hb hx)
  ·obtain⟨sl,e1⟩:=I.base.slot b o e n hb hx;exact⟨sl,(hs.2 b (Nat.ne_of_lt (Nat.lt_of_lt_of_le (Heap.lt_size e) (I.ok.lR x c AJ hc)))).trans e1⟩
  ·obtain⟨o',e1⟩:=I.base.there b o e hx;exact⟨o',(hs.2 b (Nat.ne_of_lt (Nat.lt_of_lt_of_le (Heap.lt_size e) (I.ok.lR x c AJ hc)))).trans e1⟩
  ·by_cases hj:j=i
   ·subst hj;rw[hi] at e1;cases e1;rw[List.getElem?_set_self hiσ] at e2;cases e2;exact⟨u,r,.inr ⟨.inl hk,c,hc,wN⟩⟩
   ·rw[List.getElem?_set_ne (Ne.symm hj)] at e2;obtain⟨u',r',q⟩:=hl j y v' e1 e2 e3;refine⟨u',r',?_⟩;rcases q with q |⟨k,c',e,z'⟩
    ·exact .inl q
    ·refine .inr ⟨k,c',e,z'.sameBut hs ?_⟩;rintro rfl;exact hj (vi hN e1 (I.ok.inj _ _ _ e hc▸hi))
  ·by_cases hcc:c'=c
   ·subst hcc;exact⟨_,wN⟩
   ·obtain⟨w2,z2⟩:=I.cell y c' e;exact⟨w2,z2.sameBut hs hcc⟩
  ·obtain⟨e,n,ne,nf,d⟩:=I.pin p hp;refine⟨(hs.2 p.1 ?_).trans e,n,ne,nf,d⟩;intro q;rw[q,LK] at e;have q':oc=p.2:=Option.some.inj e;exact d w' (by rw[<-q'];exact VD)
theorem yT{M:Model}{A:Around}{E:Value->Shared->Prop}{i:Nat}{x:Str}{v:V}{u:Value}{Q:Unit->Shared->Prop}(I:Inv X aa σ H s)(hN:X.N.Nodup)(hi:X.N[i]? =some x)(hx:Loc X.env.scope x)(r:RelV v u)
  (h: ∀s',Inv X aa (σ.set i (some v)) H s'->Q () s') (hf:X.fn x=true∨X.env.scope.names.lookup x=some .local:=by first |exact .inl rfl |exact .inr rfl |assumption):wpAny M A (storeName X.env x u) Q E s:=
 yA I hN hi hx r (fun s' I' _=>h s' I') hf
theorem Inv.vT{s':Shared}{ch:List Addr}(I:Inv X aa σ H s)(ho:s'.os=s.os)(u:Un (cK X.stack) ch H H' s.heap s'.heap)(aw:bY X.prog X.w H' s'.heap)(hg:AllBare s'.gens)
  (ij: ∀b∈ch,(b∈X.ex∨X.dF.heap.objs.size<=b)/\b≠X.env.locals/\(∀x c,X.env.cells.lookup x=some c->c≠b)/\ ∀p∈X.pn++aa,p.1≠b):Inv X aa σ H' s':=by
 obtain⟨h',g',d',t',o'⟩:=s';have e:o'=s.os:=ho;subst e;exact I.call (g':=g') (t':=t') (d':=d') u aw hg ij
end
abbrev XK:=Value->Option Addr->Hp->Prop
abbrev St:=List (Option V)
abbrev VK:=V->Hp->Prop
abbrev TE:=St->Hp->VK->Prop
abbrev TT:=St->Hp->(Bool->Hp->Prop)->Prop
abbrev TA:=St->Hp->(List V->Hp->Prop)->Prop
structure Ends where
 nx:St->Hp->Prop
 rt:VK
 bk:St->Hp->Prop:=fun _ _=>False
 ct:St->Hp->Prop:=fun _ _=>False
abbrev TS:=Ends->St->Hp->Prop
inductive EP(X:Cx)(aa:List (Addr×Obj))(σ:St)(Q:VK)(u:Value)(s':Shared):Prop
 |mk v H':Inv X aa σ H' s'->RelV v u->Q v H'->EP X aa σ Q u s'
def TP(X:Cx)(aa:List (Addr×Obj))(σ:St)(Q:Bool->Hp->Prop)(b:Bool)(s':Shared):Prop:= ∃H',Inv X aa σ H' s'/\Q b H'
inductive AP(X:Cx)(aa:List (Addr×Obj))(σ:St)(Q:List V->Hp->Prop)(us:List Value)(s':Shared):Prop
 |mk vs H':Inv X aa σ H' s'->Vals vs us->Q vs H'->AP X aa σ Q us s'
def SP(X:Cx)(aa:List (Addr×Obj))(D:Ends)(f:Flow)(s':Shared):Prop:=
 match f with
 | .next=> ∃σ' H',Inv X aa σ' H' s'/\D.nx σ' H'
 | .brk=> ∃σ' H',Inv X aa σ' H' s'/\D.bk σ' H'
 | .cont=> ∃σ' H',Inv X aa σ' H' s'/\D.ct σ' H'
 | .ret u=> ∃v σ' H',Inv X aa σ' H' s'/\RelV v u/\D.rt v H'
def PE(X:Cx)(e:Expr)(t:TE):Prop:=
 ∀(aa:List (Addr×Obj))(s:Shared)(σ:St)(H:Hp)(Q:VK),Inv X aa σ H s->t σ H Q->wpAny (model X.prog X.w) X.A (eval e X.env) (EP X aa σ Q) X.xe s
def PT(X:Cx)(e:Expr)(t:TT):Prop:=
 ∀(aa:List (Addr×Obj))(s:Shared)(σ:St)(H:Hp)(Q:Bool->Hp->Prop),Inv X aa σ H s->t σ H Q->wpAny (model X.prog X.w) X.A (isTrue e X.env (eval e X.env)) (TP X aa σ Q) X.xe s
def PW(X:Cx)(e:Expr)(t:TT):Prop:=
 ∀(whole:Sem Value)(aa:List (Addr×Obj))(s:Shared)(σ:St)(H:Hp)(Q:Bool->Hp->Prop),Inv X aa σ H s->t σ H Q->wpAny (model X.prog X.w) X.A (isTrue e X.env whole) (TP X aa σ Q) X.xe s
theorem PW.pt{X:Cx}{e:Expr}{t:TT}(h:PW X e t):PT X e t:=h _
def PA(X:Cx)(es:List Expr)(t:TA):Prop:=
 ∀(pos:Pos)(aa:List (Addr×Obj))(s:Shared)(σ:St)(H:Hp)(Q:List V->Hp->Prop),Inv X aa σ H s->t σ H Q->wpAny (model X.prog X.w) X.A (spliced (backTo pos (starEach es X.env))) (AP X aa σ Q) X.xe s
def PS(X:Cx)(st:Stmt)(t:TS):Prop:=
 ∀(aa:List (Addr×Obj))(s:Shared)(σ:St)(H:Hp)(D:Ends),Inv X aa σ H s->t D σ H->wpAny (model X.prog X.w) X.A (exec st X.env) (SP X aa D) X.xe s
def gw(X:Cx)(st:List Stmt)(t:TS):Prop:=
 ∀(aa:List (Addr×Obj))(s:Shared)(σ:St)(H:Hp)(D:Ends),Inv X aa σ H s->t D σ H->wpAny (model X.prog X.w) X.A (execs st X.env) (SP X aa D) X.xe s
theorem aF{α:Type}{t:Sem α}{Q Q':α->Shared->Prop}{M:Model}{A:Around}{E:Value->Shared->Prop}{s:Shared}(h:wpAny M A t Q E s)(hQ: ∀a s,Q a s->Q' a s):wpAny M A t Q' E s:=wpAny_mono h hQ fun _ _ x=>x
section
variable{X:Cx}
inductive dU(i:Nat)(σ:St)(H:Hp)(Q:VK):Prop
 |mk v:σ[i]? =some (some v)->Q v H->dU i σ H Q
def tC(v:V):TE:=fun _ H Q=>Q v H
theorem TM{i:Nat}{x:Str}{pos:Pos}(hN:X.N[i]? =some x)(hv:pY X.env.scope x)(hd:(x==("__debug__":Str))=false:=by decide)(jA:(x==("__classdict__":Str))=false:=by decide):PE X (.Name x pos) (dU i):=by
 intro aa s σ H Q I h;obtain⟨v,e,h⟩:=h;obtain⟨m,hn,hl⟩:=I.loc;obtain⟨u,r,l⟩:=hl i x v hN e hv;have fin:EP X aa σ Q u s:=⟨v,H,I,r,h⟩;rcases l with⟨hk,hm⟩ |⟨hk,c,hc,vU⟩
 ·exact wpAny_Name (wpAny_loadName_local I.ok.kind hk hn hm fin) hd
 ·rcases hk with hk |hk
  ·exact wpAny_Name (wpAny_loadName_cell I.ok.kind hk hc vU fin) hd
  ·exact wpAny_Name (wpAny_loadName_free I.ok.kind hk hc vU fin jA) hd
theorem aM{i j pos}:PE X (.Constant (.int i) j pos) (tC (.int i)):=fun _ _ _ H _ I h=>wpAny_Constant_int ⟨.int i,H,I.tok _,⟨_,rfl⟩,h⟩
theorem r_{j pos}:PE X (.Constant .none j pos) (tC .aN):=fun _ _ _ H _ I h=>Constant_none ⟨.aN,H,I,rfl,h⟩
theorem aZ{x j pos}:PE X (.Constant (.str x) j pos) (tC (.str x)):=fun _ _ _ H _ I h=>Calls.Constant_str ⟨.str x,H,I.tok _,⟨_,rfl⟩,h⟩
def Gl(X:Cx)(x:Str):Prop:=X.env.kindOf x=some .globalImplicit
theorem jR{E:Value->Shared->Prop}{aa:List (Addr×Obj)}{s:Shared}{σ:St}{H:Hp}{x:Str}{u:Value}{pos:Pos}{Q:Value->Shared->Prop}(I:Inv X aa σ H s)(hg:Gl X x)(hm:X.mg x=some u)(h:Q u s)
  (hd:(x==("__debug__":Str))=false:=by decide):wpAny (model X.prog X.w) X.A (eval (.Name x pos) X.env) Q E s:=
 Calls.Name_function_global I.ok.kind hg (Calls.loadGlobal_global (by rw[I.ok.glob];exact I.mod.glob.keeps I.bk) hm h) hd
theorem rZ{E:Value->Shared->Prop}{aa:List (Addr×Obj)}{s:Shared}{σ:St}{H:Hp}{x:Str}{u:Value}{pos:Pos}{Q:Value->Shared->Prop}(I:Inv X aa σ H s)(hg:Gl X x)(hm:X.mg x=none)(hv:bootBuiltins x=some u)(h:Q u s)
  (hn:x≠"__name__":=by decide) (hd:(x==("__debug__":Str))=false:=by decide):wpAny (model X.prog X.w) X.A (eval (.Name x pos) X.env) Q E s:=by
 obtain⟨mb,h1,h2⟩:=I.mod.blt;exact Calls.Name_function_global I.ok.kind hg (Calls.loadGlobal_builtin (by rw[I.ok.glob];exact I.mod.glob.keeps I.bk) hm (by rw[I.ok.blt];exact h1.keeps I.bk) ((h2 x hn).trans hv) h) hd
theorem bw{x:Str}{v:V}{u:Value}{pos:Pos}(hg:Gl X x)(hm:X.mg x=some u)(r:RelV v u)(hd:(x==("__debug__":Str))=false:=by decide):PE X (.Name x pos) (tC v):=
 fun _ _ _ H _ I h=>jR I hg hm ⟨v,H,I,r,h⟩ hd
variable{a b:Expr}{ta tb:TE}{pos:Pos}
def PC(X:Cx)(op:CmpOp)(a b:Expr)(t:TE):Prop:=
 ∀(aa:List (Addr×Obj))(s:Shared)(σ:St)(H:Hp)(Q:VK),Inv X aa σ H s->t σ H Q->
  wpAny (model X.prog X.w) X.A (eval a X.env) (fun v s₁=>wpAny (model X.prog X.w) X.A (eval b X.env) (fun u s₂=>wpAny (model X.prog X.w) X.A (compareOp op v u) (EP X aa σ Q) X.xe s₂) X.xe s₁) X.xe s
theorem QJ(b:Expr){op:CmpOp}(h:op≠ .In)(h2:op≠ .NotIn):behindInMarks op b=false:=by
 have e1:(op==CmpOp.In)=false:=by cases op<;>first |rfl |exact absurd rfl h
 have e2:(op==CmpOp.NotIn)=false:=by cases op<;>first |rfl |exact absurd rfl h2
 cases b<;>simp [behindInMarks,e1,e2]
def Ue(Q:VK):VK:=fun x H1=>Q (.bl (decide (x= .aN))) H1
def K3(ta:TE):TE:=fun σ H Q=>ta σ H (Ue Q)
theorem RelV.QK{x:V}{v:Value}(r:RelV x v):(v==Value.none)=decide (x= .aN):=by
 cases x with
 |aN=>cases r;rfl
 |bl _=>cases r;rfl
 |int _=>obtain⟨t,rfl⟩:=r;rfl
 |str _=>obtain⟨t,rfl⟩:=r;rfl
 |eU _=>obtain⟨t,rfl⟩:=r;rfl
 |lW _=>obtain⟨t,rfl⟩:=r;rfl
 |ref _=>cases r;rfl
 |ty _=>cases r;rfl
theorem TH{j dj}(ha:PE X a ta):PC X .Is a (.Constant .none j dj) (K3 ta):=by
 intro aa s σ H Q I h;refine aF (ha aa s σ H _ I h) fun v s1 ⟨x,H1,I1,r1,q1⟩=>?_;exact Constant_none (is_none_gen ⟨.bl _,H1,I1,by rw[r1.QK];rfl,q1⟩)
inductive K2(Q:Bool->Hp->Prop)(x:V)(H1:Hp):Prop
 |mk c:x= .bl c->Q c H1->K2 Q x H1
def tB(t:TE):TT:=fun σ H Q=>t σ H (K2 Q)
theorem vO{op:CmpOp}{t:TE}(h:PC X op a b t)(h1:behindInMarks op b=false:=by first |exact QJ _ (by decide) (by decide) |rfl):PT X (.Compare a [op] [b] pos) (tB t):=by
 intro aa s σ H Q I hw;refine wpAny_isTrue_Compare1 (aF (h aa s σ H _ I hw) fun v s1 h1=>aF h1 fun u s2 h2=>aF h2 fun c s3 ⟨x,H1,I1,r1,q1⟩=>?_) h1;obtain⟨d,rfl,q⟩:=q1;cases r1;exact wpAny_truthy_bool ⟨H1,I1,q⟩
theorem c0{e:Expr}{t:TE}(h:PE X e t)(he: ∀whole,isTrue e X.env whole=(do let v <-whole;standAt e.pos;holding [v] (truthy v)):=by intro _;rfl):PT X e (tB t):=by
 intro aa s σ H Q I hw;refine isTrue_plain (aF (h aa s σ H _ I hw) fun v s1 ⟨x,H1,I1,r1,q1⟩=>?_) (he _);obtain⟨d,rfl,q⟩:=q1;cases r1;exact wpAny_truthy_bool ⟨H1,I1,q⟩
variable{tA xi:TT}{rest:List Expr}
def T5(u:TT)(σ:St)(Q:Bool->Hp->Prop):Bool->Hp->Prop:=fun c H1=>if c=true then u σ H1 Q else Q false H1
def V2(t u:TT):TT:=fun σ H Q=>t σ H (T5 u σ Q)
def U_(u:TT)(σ:St)(Q:Bool->Hp->Prop):Bool->Hp->Prop:=fun c H1=>if c=true then Q true H1 else u σ H1 Q
def Mf(t u:TT):TT:=fun σ H Q=>t σ H (U_ u σ Q)
def Ui(Q:Bool->Hp->Prop):Bool->Hp->Prop:=fun c H1=>Q (!c) H1
def V7(t:TT):TT:=fun σ H Q=>t σ H (Ui Q)
theorem mG(ha:PT X a tA):PW X (.BoolOp .And [a] pos) tA:=by
 intro wh aa s σ H Q I h;refine isTrue_and (aF (ha aa s σ H Q I h) fun c s1 e=>?_);cases c with
 |true=>exact isTrue_and_nil e
 |false=>exact e
theorem vP(ha:PT X a tA):PW X (.BoolOp .Or [a] pos) tA:=by
 intro wh aa s σ H Q I h;refine isTrue_or (aF (ha aa s σ H Q I h) fun c s1 e=>?_);cases c with
 |false=>exact isTrue_or_nil e
 |true=>exact e
theorem mK(ha:PT X a tA)(hb:PW X (.BoolOp .And (b::rest) pos) xi):PW X (.BoolOp .And (a::b::rest) pos) (V2 tA xi):=by
 intro wh aa s σ H Q I h;refine isTrue_and (aF (ha aa s σ H _ I h) fun c s1 ⟨H1,I1,q1⟩=>?_);cases c with
 |true=>exact hb wh aa s1 σ H1 Q I1 q1
 |false=>exact⟨H1,I1,q1⟩
theorem v7(ha:PT X a tA)(hb:PW X (.BoolOp .Or (b::rest) pos) xi):PW X (.BoolOp .Or (a::b::rest) pos) (Mf tA xi):=by
 intro wh aa s σ H Q I h;refine isTrue_or (aF (ha aa s σ H _ I h) fun c s1 ⟨H1,I1,q1⟩=>?_);cases c with
 |true=>exact⟨H1,I1,q1⟩
 |false=>exact hb wh aa s1 σ H1 Q I1 q1
theorem lz(ha:PT X a tA):PT X (.UnaryOp .Not a pos) (V7 tA):=by
 intro aa s σ H Q I h;exact isTrue_not (ha aa s σ H (fun c H1=>Q (!c) H1) I h)
inductive Iu(tb:TE)(σ:St)(Q:VK)(x:V)(H1:Hp):Prop
 |mk c:x= .bl c->(if c=true then tb σ H1 Q else Q (.bl false) H1)->Iu tb σ Q x H1
def Kf(ta tb:TE):TE:=fun σ H Q=>ta σ H (Iu tb σ Q)
theorem vL{op}{t:TE}(h:PE X a t):PE X (.BoolOp op [a] pos) t:=fun aa s σ H Q I hw=>BoolOp_one (h aa s σ H Q I hw)
theorem vK(ha:PE X a ta)(hb:PE X (.BoolOp .And (b::rest) pos) tb):PE X (.BoolOp .And (a::b::rest) pos) (Kf ta tb):=by
 intro aa s σ H Q I h;refine BoolOp_and (aF (ha aa s σ H _ I h) fun v s1 ⟨x,H1,I1,r1,q1⟩=>?_);obtain⟨c,rfl,q1⟩:=q1;cases r1;refine wpAny_truthy_bool ?_;cases c with
 |true=>exact hb aa s1 σ H1 Q I1 q1
 |false=>exact⟨.bl false,H1,I1,rfl,q1⟩
def U4(ta tb:TE)(σ:St)(Q:VK):Bool->Hp->Prop:=fun c H1=>if c=true then ta σ H1 Q else tb σ H1 Q
def Yi(t:TT)(ta tb:TE):TE:=fun σ H Q=>t σ H (U4 ta tb σ Q)
theorem vm{c:Expr}(hc:PT X c tA)(ha:PE X a ta)(hb:PE X b tb):PE X (.IfExp c a b pos) (Yi tA ta tb):=by
 intro aa s σ H Q I h;refine wpAny_IfExp (aF (hc aa s σ H _ I h) fun d s1 ⟨H1,I1,q1⟩=>?_);cases d with
 |true=>exact ha aa s1 σ H1 Q I1 q1
 |false=>exact hb aa s1 σ H1 Q I1 q1
end
def aA(K:FG)(H:Hp)(a:Addr)(xs:List V):Prop:=
 Rd H a (.lst xs)∨
  ∃(o:Obj)(aq:Array Value)(n:Nat),K.lookup a=some o/\o.cls= .type "list"/\o.dict=none/\o.data= .seq aq n/\aq.size<=sizeLine/\Vals xs aq.toList
def bu(K:FG)(H:Hp)(a:Addr)(xs:List V):Prop:=
 Rd H a (.tup xs)∨
  ∃(o:Obj)(aq:Array Value)(n:Nat),K.lookup a=some o/\o.cls= .type "tuple"/\o.data= .seq aq n/\aq.size<=sizeLine/\Vals xs aq.toList
def Vi:Value->Option V
 | .none=>some .aN
 | .bool b=>some (.bl b)
 | .int i _=>some (.int i)
 | .str x _=>some (.str x)
 | .bytes b _=>some (.eU b)
 | .float b _=>some (.lW b)
 | .ref a=>some (.ref a)
 | .type n=>some (.ty n)
 |_=>none
theorem RelV.abs{x:V}{u:Value}(r:RelV x u):Vi u=some x:=by
 cases x with
 |aN=>cases r;rfl
 |bl _=>cases r;rfl
 |int _=>obtain⟨t,rfl⟩:=r;rfl
 |str _=>obtain⟨t,rfl⟩:=r;rfl
 |eU _=>obtain⟨t,rfl⟩:=r;rfl
 |lW _=>obtain⟨t,rfl⟩:=r;rfl
 |ref _=>cases r;rfl
 |ty _=>cases r;rfl
theorem RelV.inj{x y:V}{u:Value}(r:RelV x u)(q:RelV y u):x=y:=Option.some.inj (r.abs.symm.trans q.abs)
theorem Vals.inj: ∀{xs ys:List V}{us:List Value},Vals xs us->Vals ys us->xs=ys
 |_,_,_,.nil,.nil=>rfl
 |_,_,_,.cons r t,.cons r' t'=>by rw[r.inj r',Vals.inj t t']
section
variable{X:Cx}{aa:List (Addr×Obj)}{σ:St}{H:Hp}{s:Shared}{a:Addr}{xs ys:List V}
theorem aA.of{K:FG}(h:H a=some (.lst xs)):aA K H a xs:= .inl (.inl h)
theorem bu.of{K:FG}(h:H a=some (.tup xs)):bu K H a xs:= .inl (.inl h)
theorem Inv.list(I:Inv X aa σ H s)(h:aA X.K H a xs): ∃aq:List Value,Vals xs aq/\PlainL s.heap a aq.toArray/\xs.length<=sizeLine:=by
 rcases h with h |⟨o,aq,n,hk,hc,hd,hs,hz,r⟩
 ·obtain⟨z,aq,n,r,e⟩:=h.ok I.aw;exact⟨aq,r,⟨_,n,e,rfl,rfl,rfl⟩,z⟩
 ·refine⟨aq.toList,r,⟨o,n,I.bN a o hk,hc,hd,by simpa using hs⟩,?_⟩;have e:=r.length;simp only [Array.length_toList] at e;omega
theorem Inv.tuple(I:Inv X aa σ H s)(h:bu X.K H a xs): ∃aq:List Value,Vals xs aq/\IsTup s.heap a aq.toArray/\xs.length<=sizeLine:=by
 rcases h with h |⟨o,aq,n,hk,hc,hs,hz,r⟩
 ·obtain⟨z,aq,r,p⟩:=h.ok I.aw;exact⟨aq,r,p,z⟩
 ·refine⟨aq.toList,r,⟨o,I.bN a o hk,hc,n,by simpa using hs⟩,?_⟩;have e:=r.length;simp only [Array.length_toList] at e;omega
theorem Inv.yN(I:Inv X aa σ H s)(h:aA X.K H a xs)(h':aA X.K H a ys):xs=ys:=by
 obtain⟨aq,r,⟨o,n,e,_,_,d⟩,_⟩:=I.list h;obtain⟨its',r',⟨o',n',e',_,_,d'⟩,_⟩:=I.list h';rw[e] at e';cases e';rw[d] at d'
 injection d' with d1 _
 have:aq=its':=by simpa using congrArg Array.toList d1
 subst this;exact r.inj r'
theorem Inv.P2(I:Inv X aa σ H s)(h:bu X.K H a xs)(h':bu X.K H a ys):xs=ys:=by
 obtain⟨aq,r,⟨o,e,_,n,d⟩,_⟩:=I.tuple h;obtain⟨its',r',⟨o',e',_,n',d'⟩,_⟩:=I.tuple h';rw[e] at e';cases e';rw[d] at d'
 injection d' with d1 _
 have:aq=its':=by simpa using congrArg Array.toList d1
 subst this;exact r.inj r'
end
abbrev Cx.iV(X:Cx)(E:Value->Shared->Prop):Cx:={X with xe:=E}
theorem Cx.Ok.iV{X:Cx}(ok:X.Ok)(E:Value->Shared->Prop):(X.iV E).Ok:=
 ⟨ok.mod,ok.kind,ok.glob,ok.blt,ok.above,ok.inj,ok.has,ok.lR,ok.hd,ok.frames,ok.fk,ok.km,ok.bs,ok.ig,ok.lO,ok.j7,ok.fA,ok.jy⟩
theorem Cx.Ok.zz{X:Cx}{E:Value->Shared->Prop}(ok:(X.iV E).Ok):X.Ok:=
 ⟨ok.mod,ok.kind,ok.glob,ok.blt,ok.above,ok.inj,ok.has,ok.lR,ok.hd,ok.frames,ok.fk,ok.km,ok.bs,ok.ig,ok.lO,ok.j7,ok.fA,ok.jy⟩
section
variable{X:Cx}{aa:List (Addr×Obj)}{σ:St}{H:Hp}{s:Shared}{E:Value->Shared->Prop}
theorem Inv.iV(I:Inv X aa σ H s)(E:Value->Shared->Prop):Inv (X.iV E) aa σ H s:=⟨I.ok.iV E,I.os,I.bare,I.base,I.loc,I.cell,I.free,I.eB,I.pin,I.aw,I.len⟩
theorem Inv.zz(I:Inv (X.iV E) aa σ H s):Inv X aa σ H s:=⟨I.ok.zz,I.os,I.bare,I.base,I.loc,I.cell,I.free,I.eB,I.pin,I.aw,I.len⟩
end
section
variable{X:Cx}{st:Stmt}{rest:List Stmt}{t u:TS}{e:Expr}{te:TE}{pos:Pos}
def pN:TS:=fun D σ H=>D.nx σ H
def Ends.sq(D:Ends)(u:TS):Ends:={D with nx:=u D}
def ff(t u:TS):TS:=fun D σ H=>t (D.sq u) σ H
theorem a_:gw X [] pN:=fun _ _ σ H _ I h=>wpAny_execs_nil ⟨σ,H,I,h⟩
theorem ak(h1:PS X st t)(h2:gw X rest u):gw X (st::rest) (ff t u):=by
 intro aa s σ H D I h;refine wpAny_execs_cons (aF (h1 aa s σ H {D with nx:=u D} I h) fun f s1 q=>?_);cases f with
 |next=>
  obtain⟨σ',H',I',q⟩:=q;exact h2 aa s1 σ' H' D I' q
 |ret v=>exact q
 |brk=>exact q
 |cont=>exact q
theorem ao(h1:PS X st t):gw X [st] t:=by
 intro aa s σ H D I h;refine wpAny_execs_cons (aF (h1 aa s σ H D I h) fun f s1 q=>?_);cases f with
 |next=>exact wpAny_execs_nil q
 |ret v=>exact q
 |brk=>exact q
 |cont=>exact q
def T9:TS:=fun D σ H=>D.bk σ H
theorem Q3:PS X (.Break pos) T9:=fun _ _ σ H _ I h=>wpAny_Break ⟨σ,H,I,h⟩
theorem Inv.quiet{aa:List (Addr×Obj)}{σ:St}{H:Hp}{s:Shared}(I:Inv X aa σ H s):interactive X.env=false:=by simp [interactive,I.ok.kind]
def rW(D:Ends)(σ:St):VK:=fun _ H1=>D.nx σ H1
def U3(te:TE):TS:=fun D σ H=>te σ H (rW D σ)
theorem bA(he:PE X e te)(hs:swapsWith e none pos.line X.env=pure false:=by rfl):PS X (.Expr e pos) (U3 te):=by
 intro aa s σ H D I h;exact wpAny_Expr_any (aF (he aa s σ H _ I h) fun v s1 ⟨x,H1,I1,r1,q1⟩=>⟨σ,H1,I1,q1⟩) I.quiet hs
def wo(te:TE):TS:=fun D σ H=>te σ H D.rt
theorem aD(he:PE X e te):PS X (.Return (some e) pos) (wo te):=by
 intro aa s σ H D I h;exact wpAny_Return_some (aF (he aa s σ H _ I h) fun v s1 ⟨x,H1,I1,r1,q1⟩=>⟨x,σ,H1,I1,r1,q1⟩)
def Ud(t u:TS)(D:Ends)(σ:St):Bool->Hp->Prop:=fun b H1=>if b=true then t D σ H1 else u D σ H1
def lP(c:TT)(t u:TS):TS:=fun D σ H=>c σ H (Ud t u D σ)
theorem a9{c:Expr}{a b:List Stmt}{tc:TT}(hc:PT X c tc)(ha:gw X a t)(hb:gw X b u):PS X (.If c a b pos) (lP tc t u):=by
 intro aa s σ H D I h;refine wpAny_If (aF (hc aa s σ H _ I h) fun d s1 ⟨H1,I1,q1⟩=>?_);cases d with
 |true=>exact ha aa s1 σ H1 D I1 q1
 |false=>exact hb aa s1 σ H1 D I1 q1
def Uh:TS:=fun _ _ _=>False
theorem yw{Yg:List Stmt}:gw X Yg Uh:=fun _ _ _ _ _ _ h=>h.elim
end
abbrev TG:=V->St->Hp->(St->Hp->Prop)->Prop
abbrev nh:=List V->St->Hp->(St->Hp->Prop)->Prop
def PG(X:Cx)(pI:Expr)(t:TG):Prop:=
 ∀(aa:List (Addr×Obj))(s:Shared)(σ:St)(H:Hp)(v:V)(u:Value)(Q:St->Hp->Prop),Inv X aa σ H s->RelV v u->t v σ H Q->
  wpAny (model X.prog X.w) X.A (assign pI X.env u) (fun _ s'=> ∃σ' H',Inv X aa σ' H' s'/\Q σ' H') X.xe s
def wu(X:Cx)(ts:List Expr)(t:nh):Prop:=
 ∀(aa:List (Addr×Obj))(s:Shared)(σ:St)(H:Hp)(vs:List V)(us:List Value)(Q:St->Hp->Prop),Inv X aa σ H s->Vals vs us->t vs σ H Q->
  wpAny (model X.prog X.w) X.A (assignInOrder ((assignEach ts X.env).map (·.2)) us) (fun _ s'=> ∃σ' H',Inv X aa σ' H' s'/\Q σ' H') X.xe s
abbrev sC:=V->V->V->Hp->(Hp->Prop)->Prop
def Kl(X:Cx)(t:sC):Prop:=
 ∀(aa:List (Addr×Obj))(s:Shared)(σ:St)(H:Hp)(o i v:V)(ov iv u:Value)(Q:Hp->Prop),Inv X aa σ H s->RelV o ov->RelV i iv->RelV v u->t o i v H Q->
  wpAny (model X.prog X.w) X.A (setItem ov iv u) (fun _ s'=> ∃H',Inv X aa σ H' s'/\Q H') X.xe s
abbrev wz:=V->V->Hp->VK->Prop
def Wc(X:Cx)(op:Operator)(t:wz):Prop:=
 ∀(aa:List (Addr×Obj))(s:Shared)(σ:St)(H:Hp)(x y:V)(v u:Value)(Q:VK),Inv X aa σ H s->RelV x v->RelV y u->t x y H Q->
  wpAny (model X.prog X.w) X.A (inplaceOp op v u) (EP X aa σ Q) X.xe s
section
variable{X:Cx}{pos:Pos}
def de(i:Nat):TG:=fun v σ H Q=>Q (σ.set i (some v)) H
theorem dc{i:Nat}{x:Str}(hN:X.N.Nodup)(hi:X.N[i]? =some x)(hx:Loc X.env.scope x)(hf:X.fn x=true∨X.env.scope.names.lookup x=some .local:=by first |exact .inl rfl |exact .inr rfl |assumption):PG X (.Name x pos) (de i):=by
 intro aa s σ H v u Q I r h;exact wpAny_assign_Name (yT I hN hi hx r (fun s' I'=>⟨_,H,I',h⟩) hf)
def Vr:nh:=fun vs σ H Q=>vs=[]/\Q σ H
def RI(u:nh)(Q:St->Hp->Prop)(r:List V):St->Hp->Prop:=fun σ' H'=>u r σ' H' Q
inductive JP(t:TG)(u:nh)(vs:List V)(σ:St)(H:Hp)(Q:St->Hp->Prop):Prop
 |mk v r:vs=v::r->t v σ H (RI u Q r)->JP t u vs σ H Q
theorem y6:wu X [] Vr:=by
 intro aa s σ H vs us Q I r h;obtain⟨e,h⟩:=h;subst e;cases r;exact assignInOrder_nil ⟨σ,H,I,h⟩
theorem pd{e:Expr}{es:List Expr}{t:TG}{u:nh}(h1:PG X e t)(h2:wu X es u)
  (hs:(assignEach (e::es) X.env).map (·.2)=assign e X.env::(assignEach es X.env).map (·.2):=by rfl):wu X (e::es) (JP t u):=by
 intro aa s σ H vs us Q I r h;obtain⟨v,vr,e1,h⟩:=h;subst e1;cases r with
 |cons r rr=>
  rw[hs];refine assignInOrder_cons (aF (h1 aa s σ H _ _ _ I r h) fun _ s1 ⟨σ1,H1,I1,q1⟩=>?_);exact h2 aa s1 σ1 H1 _ _ Q I1 rr q1
inductive Kp(K:FG)(n:Nat)(t:nh)(v:V)(σ:St)(H:Hp)(Q:St->Hp->Prop):Prop
 |mk a xs:v= .ref a->bu K H a xs->xs.length=n->t xs σ H Q->Kp K n t v σ H Q
theorem zp{es:List Expr}{k:Nat}{t:nh}{n:Nat}(hc:X.calm=true)(h:wu X es t)
  (hn:(assignEach es X.env).length=n:=by rfl) (bL:(assignEach es X.env).findIdx? (·.1)=none:=by rfl):PG X (.Tuple es k pos) (Kp X.K n t):=by
 intro aa s σ H v u Q I r hw;obtain⟨a,xs,e1,hq,hl,hw⟩:=hw;subst e1;cases r;obtain⟨aq,rv,ht,hz⟩:=I.tuple hq;refine assign_Tuple_tuple (I.ok.hd hc) ht (by simp [hn,<-hl,rv.length]) bL fun h' hx=>?_;have I1:Inv X aa σ H {s with heap:=h'}:=I.kept (t':=s.toks) fun b o e=>hx b o (Nat.ne_of_lt (Heap.lt_size e)) e;exact h aa _ σ H xs _ Q I1 (by simpa using rv) hw
def S6(σ:St)(Q:St->Hp->Prop):Hp->Prop:=fun H3=>Q σ H3
def S5(t:sC)(v:V)(σ:St)(Q:St->Hp->Prop)(o:V):VK:=fun i H2=>t o i v H2 (S6 σ Q)
def S4(ti:TE)(t:sC)(v:V)(σ:St)(Q:St->Hp->Prop):VK:=fun o H1=>ti σ H1 (S5 t v σ Q o)
def Vs(to ti:TE)(t:sC):TG:=fun v σ H Q=>to σ H (S4 ti t v σ Q)
theorem zo{o i:Expr}{to ti:TE}{t:sC}(ho:PE X o to)(hi:PE X i ti)(hs:Kl X t)
  (ha: ∀v,assign (.Subscript o i pos) X.env v=(do
   let ov <-holding [v] (eval o X.env)
   let iv <-holding [v,ov] (eval i X.env)
   standAt pos
   holding [v,ov,iv] (setItem ov iv v)
   release [v,ov,iv] []):=by intro _;rfl):PG X (.Subscript o i pos) (Vs to ti t):=by
 intro aa s σ H v u Q I r h;rw[ha];refine wpAny_bind (wpAny_holding (aF (ho aa s σ H _ I h) fun ov s1 ⟨x,H1,I1,r1,q1⟩=>?_));refine wpAny_bind (wpAny_holding (aF (hi aa s1 σ H1 _ I1 q1) fun iv s2 ⟨y,H2,I2,r2,q2⟩=>?_));refine wpAny_bind (wpAny_standAt (wpAny_bind (wpAny_holding (aF (hs aa s2 σ H2 x y v ov iv u _ I2 r1 r2 r q2) fun _ s3 ⟨H3,I3,q3⟩=>?_))));exact wpAny_release ⟨σ,H3,I3,q3⟩
def d6(g:TG)(D:Ends)(σ:St):VK:=fun x H1=>g x σ H1 D.nx
def sM(te:TE)(g:TG):TS:=fun D σ H=>te σ H (d6 g D σ)
theorem zt{tg e:Expr}{te:TE}{g:TG}(he:PE X e te)(hg:PG X tg g)(hs:swapsWithSole [tg] e pos.line X.env=pure false:=by rfl)(hw:swappedStores [tg] e X.env=pure none:=by rfl)
  (h1:(assignEach [tg] X.env).map (·.2)=[assign tg X.env]:=by rfl):PS X (.Assign [tg] e pos) (sM te g):=by
 intro aa s σ H D I h;refine wpAny_Assign_stores (aF (he aa s σ H _ I h) fun v s1 ⟨x,H1,I1,r1,q1⟩=>?_) hs hw;rw[h1];exact aF (hg aa s1 σ H1 x v _ I1 r1 q1) fun _ s2 q=>q
theorem TQ{i:Nat}{x:Str}{e:Expr}{te:TE}{dj:Pos}(hN:X.N.Nodup)(hi:X.N[i]? =some x)(hx:Loc X.env.scope x)(he:PE X e te)(hs:swapsWith e (some (.Name x dj)) pos.line X.env=pure false:=by rfl)(hf:X.fn x=true∨X.env.scope.names.lookup x=some .local:=by first |exact .inl rfl |exact .inr rfl |assumption):
  PS X (.Assign [.Name x dj] e pos) (sM te (de i)):=by
 intro aa s σ H D I h;refine wpAny_Assign_Name (aF (he aa s σ H _ I h) fun v s1 ⟨y,H1,I1,r1,q1⟩=>?_) hs;exact yT I1 hN hi hx r1 (fun s2 I2=>⟨_,H1,I2,q1⟩) hf
def T7(i:Nat)(D:Ends)(σ:St):VK:=fun z H2=>D.nx (σ.set i (some z)) H2
def T6(i:Nat)(ti:wz)(D:Ends)(σ:St)(x:V):VK:=fun y H1=>ti x y H1 (T7 i D σ)
inductive K1(i:Nat)(te:TE)(ti:wz)(D:Ends)(σ:St)(H:Hp):Prop
 |mk x:σ[i]? =some (some x)->te σ H (T6 i ti D σ x)->K1 i te ti D σ H
theorem vM{i:Nat}{x:Str}{e:Expr}{te:TE}{op:Operator}{ti:wz}{dj:Pos}(hN:X.N.Nodup)(hi:X.N[i]? =some x)(hx:Loc X.env.scope x)(he:PE X e te)(ho:Wc X op ti)(hf:X.fn x=true∨X.env.scope.names.lookup x=some .local:=by first |exact .inl rfl |exact .inr rfl |assumption):
  PS X (.AugAssign (.Name x dj) op e pos) (K1 i te ti):=by
 intro aa s σ H D I h;obtain⟨v,e1,h⟩:=h;obtain⟨m,hn,hl⟩:=I.loc;have Yn:pY X.env.scope x:=by rcases hx with k |k;exact .inl k;exact .inr (.inl k)
 obtain⟨u,r,l⟩:=hl i x v hi e1 Yn;refine wpAny_AugAssign_Name ?_;have go:wpAny (model X.prog X.w) X.A (eval e X.env) (fun w s₂=>wpAny (model X.prog X.w) X.A (inplaceOp op u w) (fun r s₃=>wpAny (model X.prog X.w) X.A (storeName X.env x r) (fun _=>SP X aa D .next) X.xe s₃) X.xe s₂) X.xe s:=by
  refine aF (he aa s σ H _ I h) fun w s1 ⟨y,H1,I1,r1,q1⟩=>?_;refine aF (ho aa s1 σ H1 v y u w _ I1 r r1 q1) fun z s2 ⟨zv,H2,I2,r2,q2⟩=>?_;exact yT I2 hN hi hx r2 (fun s3 I3=>⟨_,H2,I3,q2⟩) hf
 rcases l with⟨hk,hm⟩ |⟨hk,c,hc,vU⟩
 ·exact wpAny_loadName_local I.ok.kind hk hn hm go
 ·rcases hk with hk |hk
  ·exact wpAny_loadName_cell I.ok.kind hk hc vU go
  ·rcases hx with k |k
   ·have:X.env.scope.names.lookup x=some .free:=hk;rw[k] at this;cases this
   ·have:X.env.scope.names.lookup x=some .free:=hk;rw[k] at this;cases this
end
section
variable{X:Cx}{pos:Pos}
def Uk(c:TT)(tb:TS):TS:=fun D σ H=> ∃W:Nat->St->Hp->Prop,(∃m,W m σ H)/\ ∀m σ H,W m σ H->
 c σ H fun b H1=>if b=true then ∃N:St->Hp->Prop,(∀σ' H',N σ' H'-> ∃m',m'<m/\W m' σ' H')/\tb {D with nx:=N,ct:=N,bk:=D.nx} σ H1 else D.nx σ H1
theorem jQ{c:Expr}{fz:List Stmt}{tc:TT}{tb:TS}(hp:PassesOwn (model X.prog X.w) X.A X.env X.xe)(hc:PT X c tc)(hb:gw X fz tb):PS X (.While c fz [] pos) (Uk tc tb):=by
 intro aa s σ H D I h;obtain⟨W,⟨m0,w0⟩,ki⟩:=h;refine wpAny_While (codeAny_whileLoop (fun n s'=> ∃σ' H',Inv X aa σ' H' s'/\W n σ' H') ?_ m0 ⟨σ,H,I,w0⟩);rintro n s1 ⟨σ1,H1,I1,w1⟩;refine wpAny_passesOwn hp (aF (hc aa s1 σ1 H1 _ I1 (ki n σ1 H1 w1)) fun b s2 ⟨H2,I2,q2⟩=>?_);cases b with
 |true=>
  obtain⟨N,hN,q2⟩:=q2;rw[if_pos rfl];refine wpAny_passesOwn hp (aF (hb aa s2 σ1 H2 _ I2 q2) fun f s3 q3=>?_);cases f with
  |next=>
   obtain⟨σ3,H3,I3,n3⟩:=q3;obtain⟨m',hm,w3⟩:=hN σ3 H3 n3;exact⟨m',hm,σ3,H3,I3,w3⟩
  |cont=>
   obtain⟨σ3,H3,I3,n3⟩:=q3;obtain⟨m',hm,w3⟩:=hN σ3 H3 n3;exact⟨m',hm,σ3,H3,I3,w3⟩
  |brk=>exact q3
  |ret v=>exact q3
 |false=>
  rw[if_neg Bool.false_ne_true];exact wpAny_execs_nil ⟨σ1,H2,I2,q2⟩
end
structure It where
 go:Nat->Hp->Prop
 jH:Nat->Hp->V->Hp->Prop
 stop:Nat->Hp->Prop
def eC(X:Cx)(aa:List (Addr×Obj))(H:Hp)(b:Addr):Prop:=
 H b=none/\b≠X.env.locals/\b∉X.fs/\(b∈X.ex∨X.dF.heap.objs.size<=b)/\(∀x c,X.env.cells.lookup x=some c->c≠b)/\ ∀p∈X.pn++aa,p.1≠b
theorem Inv.lL{X:Cx}{aa:List (Addr×Obj)}{σ:St}{H H':Hp}{s:Shared}{b:Addr}(I:Inv X aa σ H s)(hb:s.heap.objs.size<=b)(hn:H' b=none):eC X aa H' b:=by
 refine⟨hn,Nat.ne_of_gt (Nat.lt_of_lt_of_le I.lt hb),I.VS hb,.inr (Nat.le_trans I.sz hb),fun x c e z=>?_,fun p hp z=>?_⟩
 ·obtain⟨v,q⟩:=I.cell x c e;exact absurd (Nat.lt_of_lt_of_le q.lt (by rw[z];exact hb)) (Nat.lt_irrefl _)
 ·exact absurd (Nat.lt_of_lt_of_le (Heap.lt_size (I.pin p hp).1) (by rw[z];exact hb)) (Nat.lt_irrefl _)
structure Turn(P:Program)(w:World)(K:FG)(tg:Expr)(J:It)(fp:List Addr)(it:Addr)(tn:Nat->Heap->Prop):Prop where
 mem:it∈fp
 obj: ∀i h,tn i h-> ∀b∈fp,∃o,h.get? b=some o/\ ∀v,o.data≠ .cell v
 keep: ∀i h h',tn i h->(∀b∈fp,∀o,h.get? b=some o->h'.get? b=some o)->tn i h'
 item: ∀(X:Cx),X.prog=P->X.w=w->X.K=K->X.calm=true-> ∀(i:Nat)(aa:List (Addr×Obj))(s:Shared)(σ:St)(H:Hp)(E:Value->Shared->Prop),Inv X aa σ H s->(∀b∈fp,eC X aa H b)->tn i s.heap->J.go i H->
  wpAny (model P w) X.A (pyNext (.ref it)) (fun r s1=> ∃u,r=some u/\
   wpAny (model P w) X.A (letOwnedTupleGo tg (.ref it) u) (fun _ s2=> ∃x H',Inv X aa σ H' s2/\RelV x u/\J.jH i H x H'/\tn (i+1) s2.heap/\ ∀b∈fp,H' b=none) E s1) E s
 done: ∀(X:Cx),X.prog=P->X.w=w->X.K=K->X.calm=true-> ∀(i:Nat)(aa:List (Addr×Obj))(s:Shared)(σ:St)(H:Hp)(E:Value->Shared->Prop),Inv X aa σ H s->(∀b∈fp,eC X aa H b)->tn i s.heap->J.stop i H->
  wpAny (model P w) X.A (pyNext (.ref it)) (fun r s1=>r=none/\Inv X aa σ H s1) E s
 self: ∀(A:Around)(i:Nat)(s:Shared)(Q:Value->Shared->Prop)(E:Value->Shared->Prop),tn i s.heap->Q (.ref it) s->wpAny (model P w) A (pyIter (.ref it)) Q E s
abbrev TI:=St->Hp->(It->Hp->Prop)->Prop
inductive wx(X:Cx)(aa:List (Addr×Obj))(σ:St)(tg:Expr)(R:It->Hp->Prop)(ub:Value)(s2:Shared):Prop
 |mk(it:Addr)(fp:List Addr)(tn:Nat->Heap->Prop)(J:It)(H':Hp):ub= .ref it->Inv X aa σ H' s2->Turn X.prog X.w X.K tg J fp it tn->tn 0 s2.heap->(∀b∈fp,eC X aa H' b)->R J H'->wx X aa σ tg R ub s2
def PI(X:Cx)(tg iter:Expr)(wi:TI):Prop:=
 ∀(aa:List (Addr×Obj))(s:Shared)(σ:St)(H:Hp)(R:It->Hp->Prop),Inv X aa σ H s->wi σ H R->
  wpAny (model X.prog X.w) X.A (eval iter X.env) (fun v s1=>wpAny (model X.prog X.w) X.A (pyIter v) (wx X aa σ tg R) X.xe s1) X.xe s
theorem sk{M:Model}{A:Around}{E:Value->Shared->Prop}{s:Shared}{tg:Expr}{it:Addr}{u:Value}{o:Obj}{n:String}{vs:Array Value}{Q:Unit->Shared->Prop}(ho:s.heap.get? it=some o)(hc:o.cls= .type n)(hd:o.data= .fields vs)
  (hn:["enumerate","zip","dict_itemiterator","dict_reverseitemiterator","odict_iterator","itertools.zip_longest","itertools.pairwise"].contains n=false) (hQ:Q () s):wpAny M A (letOwnedTupleGo tg (.ref it) u) Q E s:=by
 unfold letOwnedTupleGo;cases tg<;>first
  |exact wpAny_pure hQ
  |(cases u<;>first
    |exact wpAny_pure hQ
    |(refine wpAny_bind (wpAny_load ho ?_)
      rw[hc,hd];show wpAny M A (if(["enumerate","zip","dict_itemiterator","dict_reverseitemiterator","odict_iterator","itertools.zip_longest","itertools.pairwise"].contains n&&vs[0]? ==some (rawInt _))=true then _ else _) Q E s;rw[if_neg (by intro h;rw[hn,Bool.false_and] at h;cases h)];exact wpAny_pure hQ))
def lQ(K:FG)(a:Addr):It:=
 ⟨fun i H=> ∃xs x,aA K H a xs/\xs[i]? =some x,fun i H x H'=>H'=H/\ ∀xs,aA K H a xs->xs[i]? =some x,fun i H=> ∃xs,aA K H a xs/\xs.length<=i⟩
def sS(K:FG)(a:Addr):It:=
 ⟨fun i H=> ∃xs x,bu K H a xs/\xs[i]? =some x,fun i H x H'=>H'=H/\ ∀xs,bu K H a xs->xs[i]? =some x,fun i H=> ∃xs,bu K H a xs/\xs.length<=i⟩
def pW(lo:Int)(n:Nat):It:=⟨fun i _=>i<n,fun i H x H'=>H'=H/\x= .int (lo+i),fun i _=>n<=i⟩
theorem P5{P:Program}{w:World}{K:FG}{tg:Expr}(a it:Addr):Turn P w K tg (lQ K a) [it] it (fun i h=>h.IsListIter it a i) where
 mem:=by simp
 obj:=fun i h st b hb=>by
  have e:b=it:=by simpa using hb
  subst e;obtain⟨o,e,c,d⟩:=st;exact⟨o,e,fun v z=>by rw[d] at z;cases z⟩
 keep:=fun i h h' st k=>st.at fun o e=>k it (by simp) o e
 item:=by
  intro X hP hw hK hc i aa s σ H E I hf st hg;subst hP hw hK;obtain⟨xs,x,hq,hx⟩:=hg;obtain⟨aq,rv,p,hz⟩:=I.list hq;obtain⟨u,hu,ru⟩:=rv.get hx;obtain⟨f0,f1,f2,f3,f4,f5⟩:=hf it (by simp);refine wpAny_pyNext_list_item st p.isList (x:=u) (by simpa using hu) fun h' fJ sb=>?_;have I1:Inv X aa σ H {s with heap:=h'}:=I.turned (t':=s.toks) (fun b o hb e=>(sb.2 b hb).trans e) f0 f1 f3 f4 f5;obtain⟨o,e,c,d⟩:=id fJ;exact⟨u,rfl,sk (s:={s with heap:=h'}) e c d (by decide) ⟨x,H,I1,ru,⟨rfl,fun ys hy=>by rw[I.yN hy hq];exact hx⟩,fJ,fun b hb=>(hf b hb).1⟩⟩
 done:=by
  intro X hP hw hK hc i aa s σ H E I hf st hg;subst hP hw hK;obtain⟨xs,hq,hx⟩:=hg;obtain⟨aq,rv,p,hz⟩:=I.list hq;obtain⟨f0,f1,f2,f3,f4,f5⟩:=hf it (by simp);have hl:=rv.length;exact wpAny_pyNext_list_end (I.ok.hd hc) st p.isList (by simp;omega) fun h' eb=>⟨rfl,I.turned (t':=s.toks) (fun b o hb e=>eb b o hb e) f0 f1 f3 f4 f5⟩
 self:=fun _ _ _ _ _ st h=>wpAny_pyIter_listiter st h
theorem O9{P:Program}{w:World}{K:FG}{tg:Expr}(a it:Addr):Turn P w K tg (sS K a) [it] it (fun i h=>h.IsTupleIter it a i) where
 mem:=by simp
 obj:=fun i h st b hb=>by
  have e:b=it:=by simpa using hb
  subst e;obtain⟨o,e,c,d⟩:=st;exact⟨o,e,fun v z=>by rw[d] at z;cases z⟩
 keep:=fun i h h' st k=>st.at fun o e=>k it (by simp) o e
 item:=by
  intro X hP hw hK hc i aa s σ H E I hf st hg;subst hP hw hK;obtain⟨xs,x,hq,hx⟩:=hg;obtain⟨aq,rv,p,hz⟩:=I.tuple hq;obtain⟨u,hu,ru⟩:=rv.get hx;obtain⟨f0,f1,f2,f3,f4,f5⟩:=hf it (by simp);refine wpAny_pyNext_tuple_item st (show s.heap.IsTuple a aq.toArray from p) (x:=u) (by simpa using hu) fun h' fJ sb=>?_;have I1:Inv X aa σ H {s with heap:=h'}:=I.turned (t':=s.toks) (fun b o hb e=>(sb.2 b hb).trans e) f0 f1 f3 f4 f5;obtain⟨o,e,c,d⟩:=id fJ;exact⟨u,rfl,sk (s:={s with heap:=h'}) e c d (by decide) ⟨x,H,I1,ru,⟨rfl,fun ys hy=>by rw[I.P2 hy hq];exact hx⟩,fJ,fun b hb=>(hf b hb).1⟩⟩
 done:=by
  intro X hP hw hK hc i aa s σ H E I hf st hg;subst hP hw hK;obtain⟨xs,hq,hx⟩:=hg;obtain⟨aq,rv,p,hz⟩:=I.tuple hq;obtain⟨f0,f1,f2,f3,f4,f5⟩:=hf it (by simp);have hl:=rv.length;exact wpAny_pyNext_tuple_end (I.ok.hd hc) st (show s.heap.IsTuple a aq.toArray from p) (by simp;omega) fun h' eb=>⟨rfl,I.turned (t':=s.toks) (fun b o hb e=>eb b o hb e) f0 f1 f3 f4 f5⟩
 self:=fun _ _ _ _ _ st h=>wpAny_pyIter_tupleiter st h
theorem O8{P:Program}{w:World}{K:FG}{tg:Expr}(it:Addr)(lo:Int)(n:Nat):Turn P w K tg (pW lo n) [it] it (fun i h=>IsRangeIter h it (lo+(i:Nat)*1) ((n:Int)-(i:Nat)) 1) where
 mem:=by simp
 obj:=fun i h st b hb=>by
  have e:b=it:=by simpa using hb
  subst e;exact⟨_,st,fun v z=>by
   have z':Data.fields _=Data.cell v:=z;cases z'⟩
 keep:=fun i h h' st k=>k it (by simp) _ st
 item:=by
  intro X hP hw hK hc i aa s σ H E I hf st hg;subst hP hw hK;obtain⟨f0,f1,f2,f3,f4,f5⟩:=hf it (by simp);have W:=Walks.range (prog:=X.prog) (w:=X.w) (I.ok.hd hc) it lo 1 n;refine W.item i s _ _ hg st fun v h' tk hv fJ kk=>?_;obtain⟨t,rfl⟩:=hv;have I1:Inv X aa σ H {s with heap:=h',toks:=tk}:=I.turned (fun b o hb e=>kk b o (by simpa using hb) e) f0 f1 f3 f4 f5;refine⟨_,rfl,sk (s:={s with heap:=h',toks:=tk}) (n:="range_iterator") fJ rfl rfl (by decide) ⟨.int (lo+i),H,I1,⟨t,?_⟩,⟨rfl,rfl⟩,fJ,fun b hb=>(hf b hb).1⟩⟩;rw[Int.mul_one]
 done:=by
  intro X hP hw hK hc i aa s σ H E I hf st hg;subst hP hw hK;obtain⟨f0,f1,f2,f3,f4,f5⟩:=hf it (by simp);exact wpAny_pyNext_range_end (I.ok.hd hc) st (by have:n<=i:=hg;omega) fun h' eb=>⟨rfl,I.turned (t':=s.toks) (fun b o hb e=>eb b o hb e) f0 f1 f3 f4 f5⟩
 self:=fun _ _ _ _ _ st h=>wpAny_pyIter_rangeiter st h
section
variable{X:Cx}{tg:Expr}
inductive Hr(K:FG)(R:It->Hp->Prop)(x:V)(H1:Hp):Prop
 |mk a:x= .ref a->(∃xs,aA K H1 a xs)->R (lQ K a) H1->Hr K R x H1
def UE(K:FG)(tl:TE):TI:=fun σ H R=>tl σ H (Hr K R)
inductive IV(K:FG)(R:It->Hp->Prop)(x:V)(H1:Hp):Prop
 |mk a:x= .ref a->(∃xs,bu K H1 a xs)->R (sS K a) H1->IV K R x H1
def VO(K:FG)(tl:TE):TI:=fun σ H R=>tl σ H (IV K R)
theorem gf{l:Expr}{tl:TE}(hl:PE X l tl):PI X tg l (UE X.K tl):=by
 intro aa s σ H R I h;refine aF (hl aa s σ H _ I h) fun v s1 ⟨x,H1,I1,r1,q1⟩=>?_;obtain⟨a,e,⟨xs,hq⟩,q⟩:=q1;subst e;cases r1;obtain⟨aq,rv,p,hz⟩:=I1.list hq;refine wpAny_pyIter_list p.isList ?_;refine⟨s1.heap.objs.size,[s1.heap.objs.size],_,_,H1,rfl,I1.kept (t':=s1.toks) fun b o e=>Heap.get?_push_of_some _ e,P5 a _,⟨_,Heap.get?_push_size _ rfl,rfl,rfl⟩,fun b hb=>?_,q⟩;have e:b=s1.heap.objs.size:=by simpa using hb
 subst e;exact I1.lL (Nat.le_refl _) (I1.aw.fresh (Nat.le_refl _))
theorem zr{l:Expr}{tl:TE}(hl:PE X l tl):PI X tg l (VO X.K tl):=by
 intro aa s σ H R I h;refine aF (hl aa s σ H _ I h) fun v s1 ⟨x,H1,I1,r1,q1⟩=>?_;obtain⟨a,e,⟨xs,hq⟩,q⟩:=q1;subst e;cases r1;obtain⟨aq,rv,p,hz⟩:=I1.tuple hq;refine wpAny_pyIter_tuple (show s1.heap.IsTuple a aq.toArray from p) ?_;refine⟨s1.heap.objs.size,[s1.heap.objs.size],_,_,H1,rfl,I1.kept (t':=s1.toks) fun b o e=>Heap.get?_push_of_some _ e,O9 a _,⟨_,Heap.get?_push_size _ rfl,rfl,rfl⟩,fun b hb=>?_,q⟩;have e:b=s1.heap.objs.size:=by simpa using hb
 subst e;exact I1.lL (Nat.le_refl _) (I1.aw.fresh (Nat.le_refl _))
theorem Q6{aa:List (Addr×Obj)}{σ:St}{H:Hp}{s:Shared}{R:It->Hp->Prop}{E:Value->Shared->Prop}{lo hi:Int}{t u v:Tok}{tk:Nat}(I:Inv X aa σ H s)(h1: -(2^62)<=lo)(h2:lo<2^62)(h3: -(2^62)<=hi)(h4:hi<2^62)
  (q:R (pW lo (hi-lo).toNat) H):wpAny (model X.prog X.w) X.A (pyIter (.ref s.heap.objs.size)) (wx X aa σ tg R) E {s with heap:=s.heap.push {cls:= .type "range",data:= .fields #[.int lo t,.int hi u,.int 1 v]},toks:=tk}:=by
 refine wpAny_pyIter_range (IsRange.new ..) (small_one h1 h2 h3 h4) ?_;have I1:Inv X aa σ H {s with heap:=s.heap.push {cls:= .type "range",data:= .fields #[.int lo t,.int hi u,.int 1 v]},toks:=tk}:=I.kept fun b o e=>Heap.get?_push_of_some _ e;refine⟨(s.heap.push {cls:= .type "range",data:= .fields #[.int lo t,.int hi u,.int 1 v]}).objs.size,[(s.heap.push {cls:= .type "range",data:= .fields #[.int lo t,.int hi u,.int 1 v]}).objs.size],_,_,H,rfl,
  I1.kept (t':=tk) fun b o e=>Heap.get?_push_of_some _ e,O8 _ lo (hi-lo).toNat,?_,fun b hb=>?_,q⟩
 ·have e1:lo+((0:Nat):Int)*1=lo:=by simp
  have e2:(((hi-lo).toNat:Nat):Int)-((0:Nat):Int)=Builtin.Range.rangeSize lo hi 1:=by rw[rangeSize_one];split<;>omega
  show IsRangeIter _ _ (lo+((0:Nat):Int)*1) ((((hi-lo).toNat:Nat):Int)-((0:Nat):Int)) 1;rw[e1,e2];exact Heap.get?_push_size _ rfl
 ·have e:b=(s.heap.push {cls:= .type "range",data:= .fields #[.int lo t,.int hi u,.int 1 v]}).objs.size:=by simpa using hb
  subst e;exact I1.lL (Nat.le_refl _) (I1.aw.fresh (Nat.le_refl _))
inductive Hs(R:It->Hp->Prop)(vs:List V)(H1:Hp):Prop
 |mk(j:Int):vs=[.int j]-> -(2^62)<=j->j<2^62->R (pW 0 j.toNat) H1->Hs R vs H1
def UG(ta:TA):TI:=fun σ H R=>ta σ H (Hs R)
theorem E7{a:Expr}{ta:TA}{p pos:Pos}(hg:Gl X "range")(hm:X.mg "range"=none)(ha:PA X [a] ta)(hs:starEach [a] X.env=[(false,eval a X.env)]:=by rfl):PI X tg (.Call (.Name "range" p) [a] [] pos) (UG ta):=by
 intro aa s σ H R I h;refine Call_ (rZ I hg hm boot_range (PyProof.Rows.callWith_type1 (aF (ha pos aa s σ H _ I h) fun us s1 ⟨vs,H1,I1,r1,q1⟩=>?_) hs rfl));obtain⟨j,e,q1,q2,q⟩:=q1;subst e;cases r1 with
 |cons r rr=>
  cases rr;obtain⟨t,rfl⟩:=r;exact call_range_1 (Q6 I1 (by omega) (by omega) q1 q2 (by simpa using q))
def Uc(g:TG)(tb:TS)(D:Ends)(σ:St)(H:Hp):It->Hp->Prop:=fun J H1=> ∃W:Nat->Nat->St->Hp->Prop,(∃m,W 0 m σ H1)/\ ∀i m σ H,W i m σ H->
 (J.stop i H/\D.nx σ H)∨(J.go i H/\ ∃N:St->Hp->Prop,(∀σ' H',N σ' H'-> ∃m',m'<m/\W (i+1) m' σ' H')/\ ∀x H',J.jH i H x H'->g x σ H' fun σ2 H2=>tb {D with nx:=N,ct:=N,bk:=D.nx} σ2 H2)
def V5(wi:TI)(g:TG)(tb:TS):TS:=fun D σ H=>wi σ H (Uc g tb D σ H)
def pF(fp:List Addr)(h:Heap):List (Addr×Obj):=fp.filterMap fun b=>(h.get? b).map fun o=>(b,o)
theorem uM{fp:List Addr}{h:Heap}{b:Addr}{o:Obj}(hb:b∈fp)(e:h.get? b=some o):(b,o)∈pF fp h:=List.mem_filterMap.mpr ⟨b,hb,by rw[e];rfl⟩
theorem PB{fp:List Addr}{h:Heap}{p:Addr×Obj}(hp:p∈pF fp h):p.1∈fp/\h.get? p.1=some p.2:=by
 obtain⟨b,hb,e⟩:=List.mem_filterMap.mp hp;cases q:h.get? b with
 |none=>rw[q] at e;cases e
 |some o=>
  rw[q] at e;have e':(b,o)=p:=Option.some.inj e;subst e';exact⟨hb,q⟩
theorem Inv.pinned{aa:List (Addr×Obj)}{σ:St}{H:Hp}{s:Shared}{fp:List Addr}(I:Inv X aa σ H s)(hf: ∀b∈fp,eC X aa H b)(ho: ∀b∈fp,∃o,s.heap.get? b=some o/\ ∀v,o.data≠ .cell v):Inv X (aa++pF fp s.heap) σ H s:=
 I.HL fun p hp=>(List.mem_append.mp hp).elim (fun z=>I.pin p (List.mem_append_right _ z)) fun z=>by
  obtain⟨hb,e⟩:=PB z;obtain⟨f0,f1,f2,_⟩:=hf p.1 hb;obtain⟨o,e',d⟩:=ho p.1 hb;rw[e] at e';cases e';exact⟨e,f0,f1,f2,d⟩
theorem Inv.rN{aa pl:List (Addr×Obj)}{σ:St}{H:Hp}{s:Shared}(I:Inv X (aa++pl) σ H s):Inv X aa σ H s:=I.HL fun p hp=>I.pin p (List.mem_append_right _ (List.mem_append_left _ hp))
theorem jW{iter:Expr}{fz:List Stmt}{wi:TI}{g:TG}{tb:TS}{pos:Pos}(hp:PassesOwn (model X.prog X.w) X.A X.env X.xe)(hc:X.calm=true)(hi:PI X tg iter wi)(hg:PG X tg g)(hb:gw X fz tb)
  (hs: ∀x,foldedSetIterable iter X.env x=pure x:=by intro _;rfl):PS X (.For tg iter fz [] pos) (V5 wi g tb):=by
 intro aa s σ H D I h;refine wpAny_For (aF (hi aa s σ H _ I h) fun v s1 h1=>aF h1 fun ub s2 h2=>?_) hs;obtain⟨it,fp,tn,J,H2,e,I2,T,nM,f2,W,⟨m0,w0⟩,ki⟩:=h2;subst e;have iS: ∀{H':Hp},(∀b∈fp,H' b=none)-> ∀b∈fp,eC X aa H' b:=fun hn b hb=>⟨hn b hb,(f2 b hb).2⟩;refine codeAny_forLoop_any (fun n s'=> ∃i σ' H',Inv X aa σ' H' s'/\tn i s'.heap/\(∀b∈fp,H' b=none)/\W i n σ' H') ?_ m0 ⟨0,σ,H2,I2,nM,fun b hb=>(f2 b hb).1,w0⟩;rintro n s3 ⟨i,σ3,H3,I3,qu,Ll,w3⟩;rcases ki i n σ3 H3 w3 with⟨stop,qn⟩ |⟨go,N,hN,step⟩
 ·refine wpAny_passesOwn hp (aF (T.done X rfl rfl rfl hc i aa s3 σ3 H3 X.xe I3 (iS Ll) qu stop) fun r s4 ⟨hr,I4⟩=>?_);subst hr;exact wpAny_execs_nil ⟨σ3,H3,I4,qn⟩
 ·refine wpAny_passesOwn hp (aF (T.item X rfl rfl rfl hc i aa s3 σ3 H3 X.xe I3 (iS Ll) qu go) fun r s4 ⟨u,hr,h4⟩=>?_);subst hr;refine wpAny_passesOwn hp (aF h4 fun _ s5 ⟨x,H5,I5,r5,y5,kH,WK⟩=>?_);have Wa:=I5.pinned (iS WK) (T.obj _ _ kH);refine wpAny_passesOwn hp (aF (hg _ s5 σ3 H5 x u _ Wa r5 (step x H5 y5)) fun _ s6 ⟨σ6,H6,I6,q6⟩=>?_);refine wpAny_passesOwn hp (aF (hb _ s6 σ6 H6 _ I6 q6) fun f s7 q7=>?_);have again: ∀{σ7:St}{H7:Hp},Inv X (aa++pF fp s5.heap) σ7 H7 s7->N σ7 H7-> ∃m,m<n/\ ∃i σ' H',Inv X aa σ' H' s7/\tn i s7.heap/\(∀b∈fp,H' b=none)/\W i m σ' H':=fun {σ7 H7} I7 n7=>by
   obtain⟨m',hm,w7⟩:=hN σ7 H7 n7;refine⟨m',hm,i+1,σ7,H7,I7.rN,T.keep _ _ _ kH fun b hb o e=>(I7.pin (b,o) (List.mem_append_right _ (List.mem_append_right _ (uM hb e)))).1,fun b hb=>?_,w7⟩;obtain⟨o,e,d⟩:=T.obj _ _ kH b hb;exact(I7.pin (b,o) (List.mem_append_right _ (List.mem_append_right _ (uM hb e)))).2.1
  cases f with
  |next=>obtain⟨σ7,H7,I7,n7⟩:=q7;exact again I7 n7
  |cont=>obtain⟨σ7,H7,I7,n7⟩:=q7;exact again I7 n7
  |brk=>obtain⟨σ7,H7,I7,q7⟩:=q7;exact⟨σ7,H7,I7.rN,q7⟩
  |ret v=>obtain⟨x7,σ7,H7,I7,r7,q7⟩:=q7;exact⟨x7,σ7,H7,I7.rN,r7,q7⟩
end
theorem mz{K:FG}{a:Addr}{xs:List V}{g:TG}{tb:TS}{D:Ends}{σ:St}{H:Hp}(Pv:Nat->St->Hp->Prop)(h0:Pv 0 σ H)(hl: ∀i σ H,i<=xs.length->Pv i σ H->aA K H a xs)
  (hs: ∀i x σ H,xs[i]? =some x->Pv i σ H->g x σ H fun σ2 H2=>tb {D with nx:=Pv (i+1),ct:=Pv (i+1),bk:=D.nx} σ2 H2) (hd: ∀σ H,Pv xs.length σ H->D.nx σ H):
  ∃W:Nat->Nat->St->Hp->Prop,(∃m,W 0 m σ H)/\ ∀i m σ H,W i m σ H->
   ((lQ K a).stop i H/\D.nx σ H)∨((lQ K a).go i H/\ ∃N:St->Hp->Prop,(∀σ' H',N σ' H'-> ∃m',m'<m/\W (i+1) m' σ' H')/\ ∀x H',(lQ K a).jH i H x H'->g x σ H' fun σ2 H2=>tb {D with nx:=N,ct:=N,bk:=D.nx} σ2 H2):=by
 refine⟨fun i m σ H=>m=xs.length-i/\i<=xs.length/\Pv i σ H,⟨xs.length,by simp,Nat.zero_le _,h0⟩,?_⟩;rintro i m σ H ⟨rfl,hi,p⟩;have q:=hl i σ H hi p
 by_cases aW:i<xs.length
 ·refine .inr ⟨⟨xs,xs[i],q,by simp [aW]⟩,Pv (i+1),fun σ' H' p'=>⟨xs.length-(i+1),by omega,rfl,aW,p'⟩,fun x H' y=>?_⟩;obtain⟨e,y⟩:=y;subst e;exact hs i x σ _ (y xs q) p
 ·have e:i=xs.length:=by omega
  subst e;exact .inl ⟨⟨xs,q,Nat.le_refl _⟩,hd σ H p⟩
abbrev R2:=V->V->Hp->VK->Prop
def bJ(X:Cx)(f:Value->Value->Sem Value)(r:R2):Prop:=
 ∀(aa:List (Addr×Obj))(s:Shared)(σ:St)(H:Hp)(x y:V)(v u:Value)(Q:VK),Inv X aa σ H s->RelV x v->RelV y u->r x y H Q->
  wpAny (model X.prog X.w) X.A (f v u) (EP X aa σ Q) X.xe s
def wA(X:Cx)(f:Value->Sem Value)(r:V->Hp->VK->Prop):Prop:=
 ∀(aa:List (Addr×Obj))(s:Shared)(σ:St)(H:Hp)(x:V)(v:Value)(Q:VK),Inv X aa σ H s->RelV x v->r x H Q->
  wpAny (model X.prog X.w) X.A (f v) (EP X aa σ Q) X.xe s
def gh(X:Cx)(f:Value)(r:List V->Hp->VK->Prop):Prop:=
 ∀(aa:List (Addr×Obj))(s:Shared)(σ:St)(H:Hp)(xs:List V)(us:List Value)(Q:VK),Inv X aa σ H s->Vals xs us->r xs H Q->
  wpAny (model X.prog X.w) X.A (call f us) (EP X aa σ Q) X.xe s
def U9(r:R2)(Q:VK)(x:V):VK:=fun y H2=>r x y H2 Q
def U8(r:R2)(tb:TE)(σ:St)(Q:VK):VK:=fun x H1=>tb σ H1 (U9 r Q x)
def jG(r:R2)(ta tb:TE):TE:=fun σ H Q=>ta σ H (U8 r tb σ Q)
def Ve(r:V->Hp->VK->Prop)(Q:VK):VK:=fun x H1=>r x H1 Q
def Yk(r:V->Hp->VK->Prop)(ta:TE):TE:=fun σ H Q=>ta σ H (Ve r Q)
inductive rI(C:Int->Int->Prop)(g:Int->Int->V)(x y:V)(H:Hp)(Q:VK):Prop
 |mk i j:x= .int i->y= .int j->C i j->Q (g i j) H->rI C g x y H Q
inductive i7(g:Int->Int->V)(x y:V)(H:Hp)(Q:VK):Prop
 |mk i j:x= .int i->y= .int j->Q (g i j) H->i7 g x y H Q
inductive rU(g:Int->V)(x:V)(H:Hp)(Q:VK):Prop
 |mk i:x= .int i->Q (g i) H->rU g x H Q
section
variable{X:Cx}{a b c:Expr}{ta tb tc:TE}{pos:Pos}
theorem zU(ha:PE X a ta)(hb:PE X b tb){aa:List (Addr×Obj)}{s:Shared}{σ:St}{H:Hp}{R:V->V->Hp->Prop}(I:Inv X aa σ H s)
  (h:ta σ H fun x H1=>tb σ H1 fun y H2=>R x y H2) {Q:Value->Shared->Prop} {f:Value->Value->Sem Value}
  (hf: ∀v u s2 x y H2,Inv X aa σ H2 s2->RelV x v->RelV y u->R x y H2->wpAny (model X.prog X.w) X.A (f v u) Q X.xe s2):
  wpAny (model X.prog X.w) X.A (eval a X.env) (fun v s₁=>wpAny (model X.prog X.w) X.A (eval b X.env) (fun u s₂=>wpAny (model X.prog X.w) X.A (f v u) Q X.xe s₂) X.xe s₁) X.xe s:=by
 refine aF (ha aa s σ H _ I h) fun v s1 ⟨x,H1,I1,r1,q1⟩=>?_;refine aF (hb aa s1 σ H1 _ I1 q1) fun u s2 ⟨y,H2,I2,r2,q2⟩=>?_;exact hf v u s2 x y H2 I2 r1 r2 q2
theorem a0{op:Operator}{r:R2}(ho:bJ X (binaryOp op) r)(ha:PE X a ta)(hb:PE X b tb):PE X (.BinOp a op b pos) (jG r ta tb):=by
 intro aa s σ H Q I h;exact wpAny_BinOp (zU ha hb I h fun v u s2 x y H2 I2 rx ry q=>ho aa s2 σ H2 x y v u Q I2 rx ry q)
theorem fe{op:UnaryOp}{r:V->Hp->VK->Prop}(ho:wA X (unaryOp op) r)(ha:PE X a ta):PE X (.UnaryOp op a pos) (Yk r ta):=by
 intro aa s σ H Q I h;exact UnaryOp_ (aF (ha aa s σ H _ I h) fun v s1 ⟨x,H1,I1,r1,q1⟩=>ho aa s1 σ H1 x v Q I1 r1 q1)
theorem A9{f:Value->Value->Sem Value}{C:Int->Int->Prop}{g:Int->Int->Int}
  (rule: ∀(i j:Int)(t u:Tok)(s:Shared)(Q:Value->Shared->Prop)(E:Value->Shared->Prop),C i j->Q (.int (g i j) s.toks) {s with toks:=s.toks+1}->wpAny (model X.prog X.w) X.A (f (.int i t) (.int j u)) Q E s):
  bJ X f (rI C fun i j=> .int (g i j)):=by
 intro aa s σ H x y v u Q I rx ry h;obtain⟨i,j,rfl,rfl,hc,q⟩:=h;obtain⟨t,rfl⟩:=rx;obtain⟨t',rfl⟩:=ry;exact rule i j t t' s _ _ hc ⟨.int (g i j),H,I.tok _,⟨_,rfl⟩,q⟩
theorem wk{f:Value->Value->Sem Value}{g:Int->Int->Int}
  (rule: ∀(i j:Int)(t u:Tok)(s:Shared)(Q:Value->Shared->Prop)(E:Value->Shared->Prop),Q (.int (g i j) s.toks) {s with toks:=s.toks+1}->wpAny (model X.prog X.w) X.A (f (.int i t) (.int j u)) Q E s):
  bJ X f (i7 fun i j=> .int (g i j)):=by
 intro aa s σ H x y v u Q I rx ry h;obtain⟨i,j,rfl,rfl,q⟩:=h;obtain⟨t,rfl⟩:=rx;obtain⟨t',rfl⟩:=ry;exact rule i j t t' s _ _ ⟨.int (g i j),H,I.tok _,⟨_,rfl⟩,q⟩
theorem Ai{f:Value->Value->Sem Value}{g:Int->Int->Bool}
  (rule: ∀(i j:Int)(t u:Tok)(s:Shared)(Q:Value->Shared->Prop)(E:Value->Shared->Prop),Q (.bool (g i j)) s->wpAny (model X.prog X.w) X.A (f (.int i t) (.int j u)) Q E s):
  bJ X f (i7 fun i j=> .bl (g i j)):=by
 intro aa s σ H x y v u Q I rx ry h;obtain⟨i,j,rfl,rfl,q⟩:=h;obtain⟨t,rfl⟩:=rx;obtain⟨t',rfl⟩:=ry;exact rule i j t t' s _ _ ⟨.bl (g i j),H,I,rfl,q⟩
def Kj(i j:Int):Prop:=0<=j/\j<=1000000/\i.natAbs<2^64
def zQ(i j:Int):Prop:=(-(2^64)<i/\i<2^64)∨(-(2^64)<j/\j<2^64)
theorem zQ.ok{i j:Int}(h:zQ i j):IntMulOk i j:=by
 rcases h with⟨h1,h2⟩ |⟨h1,h2⟩
 ·exact .of_left (intBits_le_64 h1 h2)
 ·exact .of_right (intBits_le_64 h1 h2)
theorem O_(k:Nat):(0:Int)<=2^k:=by
 rw[two_pow_cast];exact Int.natCast_nonneg _
theorem Ji:bJ X (binaryOp .Add) (i7 fun i j=> .int (i+j)):=wk fun _ _ _ _ _ _ _ q=>add_int q
theorem r9:bJ X (binaryOp .Sub) (i7 fun i j=> .int (i-j)):=wk fun _ _ _ _ _ _ _ q=>sub_int q
theorem Tz:bJ X (binaryOp .Mult) (rI zQ fun i j=> .int (i*j)):=A9 fun _ _ _ _ _ _ _ hc q=>mul_int q hc.ok
theorem TB:bJ X (binaryOp .LShift) (rI Kj fun i j=> .int (i*2^j.toNat)):=A9 fun _ _ _ _ _ _ _ hc q=>lshift_int_small hc.1 hc.2.1 hc.2.2 q
theorem Jl:bJ X (binaryOp .RShift) (rI (fun _ j=>0<=j) fun i j=> .int (i / 2^j.toNat)):=A9 fun i j _ _ _ _ _ hc q=>
 rshift_int hc (by rw[Int.fdiv_eq_ediv_of_nonneg i (O_ _)];exact q)
theorem vJ:bJ X (binaryOp .BitAnd) (i7 fun i j=> .int (Builtin.bitAnd i j)):=wk fun _ _ _ _ _ _ _ q=>and_int q
theorem UN:bJ X (binaryOp .BitOr) (i7 fun i j=> .int (Builtin.bitOr i j)):=wk fun _ _ _ _ _ _ _ q=>or_int q
theorem Mj{f:Value->Sem Value}{g:Int->Int}
  (rule: ∀(i:Int)(t:Tok)(s:Shared)(Q:Value->Shared->Prop)(E:Value->Shared->Prop),Q (.int (g i) s.toks) {s with toks:=s.toks+1}->wpAny (model X.prog X.w) X.A (f (.int i t)) Q E s):
  wA X f (rU fun i=> .int (g i)):=by
 intro aa s σ H x v Q I rx h;obtain⟨i,rfl,q⟩:=h;obtain⟨t,rfl⟩:=rx;exact rule i t s _ _ ⟨.int (g i),H,I.tok _,⟨_,rfl⟩,q⟩
theorem g8:wA X (unaryOp .USub) (rU fun i=> .int (-i)):=Mj fun _ _ _ _ _ q=>neg_int q
theorem vS:wA X (unaryOp .Invert) (rU fun i=> .int (Builtin.bitNot i)):=Mj fun _ _ _ _ _ q=>invert_int q
end
def KZ:V->V->Bool
 | .aN,.aN=>true | .aN,.int _=>true | .int _,.aN=>true | .aN,.bl _=>true | .bl _,.aN=>true | .aN,.str _=>true | .str _,.aN=>true
 | .int _,.int _=>true | .bl _,.bl _=>true | .str _,.str _=>true | .eU _,.eU _=>true
 | .int _,.str _=>true | .str _,.int _=>true | .bl _,.str _=>true | .str _,.bl _=>true
 |_,_=>false
def Bc:R2:=fun x y H Q=>KZ x y=true/\Q (.bl (decide (x=y))) H
def X8:R2:=fun x y H Q=>KZ x y=true/\Q (.bl (!decide (x=y))) H
theorem Hj{i j:Int}:decide (V.int i=V.int j)=(i==j):=by
 rw[Bool.eq_iff_iff];simp
theorem IJ{i j:Bool}:decide (V.bl i=V.bl j)=(i==j):=by
 rw[Bool.eq_iff_iff];simp
theorem vv{i j:Str}:decide (V.str i=V.str j)=(i==j):=by
 rw[Bool.eq_iff_iff];simp
theorem Hi{i j:Array UInt8}:decide (V.eU i=V.eU j)=(i.toList==j.toList):=by
 rw[Bool.eq_iff_iff];cases i;cases j;simp
section
variable{X:Cx}{a b c:Expr}{ta tb tc:TE}{pos:Pos}
theorem cu{aa:List (Addr×Obj)}{σ:St}{H:Hp}{s:Shared}{Q:VK}{k k':Bool}(I:Inv X aa σ H s)(q:Q (.bl k) H)(e:k=k'):EP X aa σ Q (.bool k') s:=by
 subst e;exact⟨.bl k,H,I,rfl,q⟩
theorem dP:bJ X (compareOp .Eq) Bc:=by
 intro aa s σ H x y v u Q I rx ry h;obtain⟨hs,q⟩:=h;cases x with
 |aN=>
  cases rx;cases y with
  |aN=>cases ry;exact PySem.EqNone.eq_none_none (cu I q (by simp))
  |bl j=>cases ry;exact PySem.EqNone.eq_none_bool (cu I q (by simp))
  |int j=>obtain⟨t',rfl⟩:=ry;exact PySem.EqNone.eq_none_int (cu I q (by simp))
  |str j=>obtain⟨t',rfl⟩:=ry;exact PySem.EqNone.eq_none_str (cu I q (by simp))
  |_=>exact absurd (show false=true from hs) Bool.false_ne_true
 |bl i=>
  cases rx;cases y with
  |aN=>cases ry;exact PySem.EqNone.eq_bool_none (cu I q (by simp))
  |bl j=>cases ry;exact eq_bool (cu I q IJ)
  |str j=>obtain⟨t',rfl⟩:=ry;exact PySem.EqMixed.eq_bool_str (cu I q (by simp))
  |_=>exact absurd (show false=true from hs) Bool.false_ne_true
 |int i=>
  obtain⟨t,rfl⟩:=rx;cases y with
  |aN=>cases ry;exact PySem.EqNone.eq_int_none (cu I q (by simp))
  |int j=>obtain⟨t',rfl⟩:=ry;exact eq_int (cu I q Hj)
  |str j=>obtain⟨t',rfl⟩:=ry;exact PySem.EqMixed.eq_int_str (cu I q (by simp))
  |_=>exact absurd (show false=true from hs) Bool.false_ne_true
 |str i=>
  obtain⟨t,rfl⟩:=rx;cases y with
  |aN=>cases ry;exact PySem.EqNone.eq_str_none (cu I q (by simp))
  |bl j=>cases ry;exact PySem.EqMixed.eq_str_bool (cu I q (by simp))
  |int j=>obtain⟨t',rfl⟩:=ry;exact PySem.EqMixed.eq_str_int (cu I q (by simp))
  |str j=>obtain⟨t',rfl⟩:=ry;exact eq_str (cu I q vv)
  |_=>exact absurd (show false=true from hs) Bool.false_ne_true
 |eU i=>
  obtain⟨t,rfl⟩:=rx;cases y with
  |eU j=>obtain⟨t',rfl⟩:=ry;exact PySem.W.eq_bytes (cu I q Hi)
  |_=>exact absurd (show false=true from hs) Bool.false_ne_true
 |_=>cases y<;>exact absurd (show false=true from hs) Bool.false_ne_true
theorem zJ:bJ X (compareOp .NotEq) X8:=by
 intro aa s σ H x y v u Q I rx ry h;obtain⟨hs,q⟩:=h;cases x with
 |aN=>
  cases rx;cases y with
  |aN=>cases ry;exact PySem.EqNone.ne_none_none (cu I q (by simp))
  |bl j=>cases ry;exact PySem.EqNone.ne_none_bool (cu I q (by simp))
  |int j=>obtain⟨t',rfl⟩:=ry;exact PySem.EqNone.ne_none_int (cu I q (by simp))
  |str j=>obtain⟨t',rfl⟩:=ry;exact PySem.EqNone.ne_none_str (cu I q (by simp))
  |_=>exact absurd (show false=true from hs) Bool.false_ne_true
 |bl i=>
  cases rx;cases y with
  |aN=>cases ry;exact PySem.EqNone.ne_bool_none (cu I q (by simp))
  |bl j=>cases ry;exact ne_bool (cu I q (congrArg not IJ))
  |str j=>obtain⟨t',rfl⟩:=ry;exact PySem.EqMixed.ne_bool_str (cu I q (by simp))
  |_=>exact absurd (show false=true from hs) Bool.false_ne_true
 |int i=>
  obtain⟨t,rfl⟩:=rx;cases y with
  |aN=>cases ry;exact PySem.EqNone.ne_int_none (cu I q (by simp))
  |int j=>obtain⟨t',rfl⟩:=ry;exact ne_int (cu I q (congrArg not Hj))
  |str j=>obtain⟨t',rfl⟩:=ry;exact PySem.EqMixed.ne_int_str (cu I q (by simp))
  |_=>exact absurd (show false=true from hs) Bool.false_ne_true
 |str i=>
  obtain⟨t,rfl⟩:=rx;cases y with
  |aN=>cases ry;exact PySem.EqNone.ne_str_none (cu I q (by simp))
  |bl j=>cases ry;exact PySem.EqMixed.ne_str_bool (cu I q (by simp))
  |int j=>obtain⟨t',rfl⟩:=ry;exact PySem.EqMixed.ne_str_int (cu I q (by simp))
  |str j=>obtain⟨t',rfl⟩:=ry;exact ne_str (cu I q (congrArg not vv))
  |_=>exact absurd (show false=true from hs) Bool.false_ne_true
 |eU i=>
  obtain⟨t,rfl⟩:=rx;cases y with
  |eU j=>obtain⟨t',rfl⟩:=ry;exact PySem.W.ne_bytes (cu I q (congrArg not Hi))
  |_=>exact absurd (show false=true from hs) Bool.false_ne_true
 |_=>cases y<;>exact absurd (show false=true from hs) Bool.false_ne_true
theorem zI:bJ X (compareOp .Lt) (i7 fun i j=> .bl (decide (i<j))):=Ai fun _ _ _ _ _ _ _ q=>lt_int q
theorem J6:bJ X (compareOp .LtE) (i7 fun i j=> .bl (decide (i<=j))):=Ai fun _ _ _ _ _ _ _ q=>le_int q
theorem UL:bJ X (compareOp .Gt) (i7 fun i j=> .bl (decide (j<i))):=Ai fun _ _ _ _ _ _ _ q=>gt_int q
theorem Sf:bJ X (compareOp .IsNot) (fun x y H Q=>y= .aN/\Q (.bl (!decide (x= .aN))) H):=by
 intro aa s σ H x y v u Q I rx ry h;obtain⟨rfl,q⟩:=h;cases ry;refine isnot_none_gen (cu I q ?_);cases x<;>first
  |(cases rx;rfl)
  |(obtain⟨t,rfl⟩:=rx;rfl)
theorem bc(b:Expr){op:CmpOp}(h:op≠ .In:=by decide)(h2:op≠ .NotIn:=by decide):behindInMarks op b=false:=by
 have e1:(op==CmpOp.In)=false:=by cases op<;>first |rfl |exact absurd rfl h
 have e2:(op==CmpOp.NotIn)=false:=by cases op<;>first |rfl |exact absurd rfl h2
 cases b<;>simp [behindInMarks,e1,e2]
theorem ji{op:CmpOp}{r:R2}(ho:bJ X (compareOp op) r)(ha:PE X a ta)(hb:PE X b tb)(hm:behindInMarks op b=false):PE X (.Compare a [op] [b] pos) (jG r ta tb):=by
 intro aa s σ H Q I h;exact wpAny_Compare1 (zU ha hb I h fun v u s2 x y H2 I2 rx ry q=>ho aa s2 σ H2 x y v u Q I2 rx ry q) hm
inductive IA(Q:Bool->Hp->Prop)(x:V)(H':Hp):Prop
 |mk k:x= .bl k->Q k H'->IA Q x H'
def sA(t:TE):TT:=fun σ H Q=>t σ H (IA Q)
theorem bg{op:CmpOp}{r:R2}(ho:bJ X (compareOp op) r)(ha:PE X a ta)(hb:PE X b tb)(hm:behindInMarks op b=false):PT X (.Compare a [op] [b] pos) (sA (jG r ta tb)):=by
 intro aa s σ H Q I h;refine wpAny_isTrue_Compare1 (aF (ha aa s σ H _ I h) fun v s1 ⟨x,H1,I1,r1,q1⟩=>aF (hb aa s1 σ H1 _ I1 q1) fun u s2 ⟨y,H2,I2,r2,q2⟩=>
  aF (ho aa s2 σ H2 x y v u _ I2 r1 r2 q2) fun c s3 ⟨z,H3,I3,r3,k,e,q3⟩=>?_) hm
 subst e;cases r3;exact wpAny_truthy_bool ⟨H3,I3,q3⟩
inductive GY(r':R2)(tc:TE)(σ:St)(Q:VK)(y z:V)(H3:Hp):Prop
 |mk k:z= .bl k->(if k=true then tc σ H3 fun w' H4=>r' y w' H4 Q else Q (.bl false) H3)->GY r' tc σ Q y z H3
def Rn(r r':R2)(tc:TE)(σ:St)(Q:VK)(x:V):VK:=fun y H2=>r x y H2 (GY r' tc σ Q y)
def Rm(r r':R2)(tb tc:TE)(σ:St)(Q:VK):VK:=fun x H1=>tb σ H1 (Rn r r' tc σ Q x)
def JC(r r':R2)(ta tb tc:TE):TE:=fun σ H Q=>ta σ H (Rm r r' tb tc σ Q)
theorem Gb{op nJ:CmpOp}{r r':R2}(ho:bJ X (compareOp op) r)(fX:bJ X (compareOp nJ) r')(ha:PE X a ta)(hb:PE X b tb)(hc:PE X c tc)
  (hm:lastMarks [op,nJ] [b,c]=false:=by with_unfolding_all rfl):PE X (.Compare a [op,nJ] [b,c] pos) (JC r r' ta tb tc):=by
 intro aa s σ H Q I h;refine Compare_chain (aF (ha aa s σ H _ I h) fun v s1 ⟨x,H1,I1,r1,q1⟩=>chain_link (aF (hb aa s1 σ H1 _ I1 q1) fun u s2 ⟨y,H2,I2,r2,q2⟩=>
  aF (ho aa s2 σ H2 x y v u _ I2 r1 r2 q2) fun d s3 ⟨z,H3,I3,r3,k,e,q3⟩=>?_)) hm
 subst e;cases r3;refine wpAny_truthy_bool ?_;cases k with
 |false=>exact ite_ff ⟨.bl false,H3,I3,rfl,q3⟩
 |true=>exact ite_tt (chain_last (aF (hc aa s3 σ H3 _ I3 q3) fun w' s4 ⟨z',H4,I4,r4,q4⟩=>fX aa s4 σ H4 y z' u w' Q I4 r2 r4 q4))
theorem rL{op nJ:CmpOp}{r r':R2}(ho:bJ X (compareOp op) r)(fX:bJ X (compareOp nJ) r')(ha:PE X a ta)(hb:PE X b tb)(hc:PE X c tc)
  (hm:lastMarks [op,nJ] [b,c]=false:=by with_unfolding_all rfl):PT X (.Compare a [op,nJ] [b,c] pos) (sA (JC r r' ta tb tc)):=by
 intro aa s σ H Q I h;refine isTrue_chain (aF (ha aa s σ H _ I h) fun v s1 ⟨x,H1,I1,r1,q1⟩=>test_link (aF (hb aa s1 σ H1 _ I1 q1) fun u s2 ⟨y,H2,I2,r2,q2⟩=>
  aF (ho aa s2 σ H2 x y v u _ I2 r1 r2 q2) fun d s3 ⟨z,H3,I3,r3,k,e,q3⟩=>?_)) hm
 subst e;cases r3;refine wpAny_truthy_bool ?_;cases k with
 |false=>
  obtain⟨k',e',q'⟩:=q3;cases e';exact ite_ff ⟨H3,I3,q'⟩
 |true=>
  refine ite_tt (test_last (aF (hc aa s3 σ H3 _ I3 q3) fun w' s4 ⟨z',H4,I4,r4,q4⟩=>aF (fX aa s4 σ H4 y z' u w' _ I4 r2 r4 q4) fun d' s5 ⟨z2,H5,I5,r5,k2,e2,q5⟩=>?_));subst e2;cases r5;exact wpAny_truthy_bool ⟨H5,I5,q5⟩
theorem r6:(sizeLine:Nat)<2^63:=by rw[sizeLine_eq];decide
theorem qY:bJ X (binaryOp .Add) (fun x y H Q=> ∃i j,x= .str i/\y= .str j/\i.length+j.length<=sizeLine/\Q (.str (i++j)) H):=by
 intro aa s σ H x y v u Q I rx ry h;obtain⟨i,j,rfl,rfl,hz,q⟩:=h;obtain⟨t,rfl⟩:=rx;obtain⟨t',rfl⟩:=ry;exact add_str (fun t' tk=>⟨.str (i++j),H,I.tok _,⟨_,rfl⟩,q⟩) hz
theorem vals1{x:V}{us:List Value}(r:Vals [x] us): ∃u,us=[u]/\RelV x u:=by
 cases r with
 |cons r1 r2=>cases r2;exact⟨_,rfl,r1⟩
theorem NF:gh X (.type "str") (fun xs H Q=> ∃i,xs=[.int i]/\i.natAbs.log2<1920/\Q (.str (toString i)) H):=by
 intro aa s σ H xs us Q I r h;obtain⟨i,rfl,hz,q⟩:=h;obtain⟨u,rfl,t,rfl⟩:=vals1 r;exact PySem.P.str_of_int hz ⟨.str _,H,I.tok _,⟨_,rfl⟩,q⟩
theorem Qi:gh X (.builtin "ord") (fun xs H Q=> ∃x,xs=[.str x]/\x.length=1/\Q (.int (x.cps.getD 0 0:Nat)) H):=by
 intro aa s σ H xs us Q I r h;obtain⟨x,rfl,hz,q⟩:=h;obtain⟨u,rfl,t,rfl⟩:=vals1 r;exact ord_of_one hz ⟨.int _,H,I.tok _,⟨_,rfl⟩,q⟩
end
structure m5(h:Heap)(x dx C:Addr)(mA:Str->Option Value):Prop where
 obj:h.get? x=some (PySem.W.instObj C dx)
 ns:h.Ns1 dx mA
 ne:dx≠x
theorem EY{h:Heap}{dx:Addr}{mA:Str->Option Value}(n:h.Ns1 dx mA): ∃od,h.get? dx=some od/\ ∀name,PySem.W.lookIn name od=some (mA name):=by
 obtain⟨o,es,ep,ho,hd,hk,_,hm⟩:=n;refine⟨o,ho,fun name=>?_⟩;have e:=hm name;unfold nsFind findBy at e;rw[<-Array.find?_toList] at e;unfold PySem.W.lookIn;rw[hd];dsimp only
 split
 ·rename_i y q
  rw[q] at e;exact congrArg some e
 ·rename_i q
  rw[q] at e;have a:es.toList.any (·.refKey)=false:=by
   rw[List.any_eq_false];intro y hy;obtain⟨z,t,Vz⟩:=hk y (Array.mem_toList_iff.mp hy);simp [DictEntry.refKey,Vz]
  have a': ¬es.toList.any (·.refKey)=true:=by rw[a];exact Bool.false_ne_true
  rw[if_neg a'];exact congrArg some e
theorem m5.look{h:Heap}{x dx C:Addr}{mA:Str->Option Value}(I:m5 h x dx C mA): ∃od,PySem.W.InstAt h x (PySem.W.instObj C dx) C (some od)/\ ∀name,PySem.W.lookIn name od=some (mA name):=
 let⟨od,ho,hl⟩:=EY I.ns
 ⟨od,⟨I.obj,rfl,rfl,ho⟩,hl⟩
section
variable{prog:Program}{w:World}{A:Around}{E:Value->Shared->Prop}{s:Shared}{K:FG}{x dx C f:Addr}{mA:Str->Option Value}{name:Str}{v:Value}
theorem get_map{expr:Bool}{Q:Value->Shared->Prop}(X:K.In s.heap)(I:m5 s.heap x dx C mA)(hg:PySem.W.plainGet K C name=true)(hh:PySem.W.hasDictIn K C=true)
  (ha:PySem.W.findIn K (.ref C) name=some none) (hv:mA name=some v) (w6:PySem.W.handedIn v=true) (h:Q v {s with toks:=s.toks+1}):
  wpAny (model prog w) A (getAttr (.ref x) name expr) Q E s:=by
 obtain⟨od,J,hl⟩:=I.look;exact PySem.W.get_value X J (PySem.W.plainGet_of hg).1 (PySem.W.findObj_own hh ha rfl (by rw[hl,hv])) w6 h
theorem Qp{pl:Sem Bool}{Q:Value×List Value->Shared->Prop}(X:K.In s.heap)(I:m5 s.heap x dx C mA)(hg:PySem.W.plainGet K C name=true)
  (hf:PySem.W.findIn K (.ref C) name=some (some (.ref f))) (ht:PySem.W.isFn K (.ref f)=true) (hv:mA name=none) (h:Q (.ref f,[.ref x]) s):
  wpAny (model prog w) A (getMethod (.ref x) name pl) Q E s:=by
 obtain⟨od,J,hl⟩:=I.look;exact PySem.W.method_fn X J (PySem.W.plainGet_of hg).1 (PySem.W.plainGet_of hg).2 hf (beq_iff_eq.mp ht) (by show(PySem.W.lookIn name od).map (·.isSome)=some false;rw[hl,hv];rfl) h
theorem Sw{ns:List Str}{Q:Unit->Shared->Prop}(X:K.In s.heap)(I:m5 s.heap x dx C mA)
  (hs:PySem.W.findIn K (.ref C) "__setattr__"=some (some (.builtin "object.__setattr__"))) (hp:PySem.W.plainOver K C=true) (ht:PySem.W.takerIn K C name=some none) (hh:PySem.W.hasDictIn K C=true)
  (hw:PySem.Within mA ns) (hsz:ns.length<=sizeLine)
  (h: ∀h',m5 h' x dx C (fun y=>if y=name then some v else mA y)->Heap.SameBut dx s.heap h'->Q () {s with heap:=h',toks:=s.toks+2}):
  wpAny (model prog w) A (setAttr (.ref x) name v) Q E s:=by
 obtain⟨od,J,hl⟩:=I.look;refine PySem.W.set_plain X J hs (PySem.W.osa_open (s:={s with toks:=s.toks+1}) (r:=none) X J hp ht fun b=>?_);obtain⟨cd,hc,AG⟩:=PySem.W.any_some hh;have hx:s.heap.get? x=some ⟨.ref C,some dx,.plain, #[]⟩:=I.obj;refine wpAny_bind (wpAny_pure (wpAny_bind (wpAny_bind (wpAny_loadPart hx (wpAny_bind (PySem.W.Looks.here (s:={s with toks:=s.toks+1}) (PySem.W.looks_clsIn X hc) ?_))))));rw[AG];refine wpAny_pure (a:=some dx) (wpAny_bind (wpAny_pure (wpAny_bind ?_)));refine wpAny_nsSet1 (s:={s with toks:=s.toks+1}) I.ns fun h' iZ aY=>?_;obtain⟨oD,Lk,Lh,tS,tH,tF⟩:=iZ.count (PySem.Within.cons name v hw);refine wpAny_bind (wpAny_lookBehind tS (by rw[tH];exact pastItsLine_dict (Nat.le_trans tF (by rw[List.length_cons];omega))) ?_);exact wpAny_pure (h _ ⟨(aY.2 _ (Ne.symm I.ne)).trans I.obj,iZ,I.ne⟩ aY)
theorem QC{R:Result->Shared->Prop}{vs:List Value}{kw:List (Str×Value)}(X:K.In s.heap)(hm:PySem.W.makesIn K C=true)
  (hi:PySem.W.findIn K (.ref C) "__init__"=some (some (.ref f))) (hf:PySem.W.typeIn K (.ref f)=some (.type "function"))
  (h:codeAny (model prog w) (A.under (.builtin "type.__call__" ⟨.ref C::vs,kw⟩)) (.call (.ref f) ⟨.ref (s.heap.objs.size+1)::vs,kw⟩) (PySem.W.InitBack (s.heap.objs.size+1) R)
   {s with heap:=(s.heap.push PySem.W.emptyDict).push (PySem.W.instObj C s.heap.objs.size)}):
  codeAny (model prog w) A (.call (.ref C) ⟨vs,kw⟩) R s:=by
 obtain⟨hh,g,d,t,os⟩:=s;exact PySem.W.make_core (PySem.W.makes_of X hm) (PySem.W.looks_findIn X hi) (fun self=>PySem.W.bind_fn X self hf) (.inl rfl) h
end
def bD(f:Str)(v:V):List (Str×V)->List (Str×V)
 |[]=>[(f,v)]
 |(g,x)::r=>if g=f then(g,v)::r else(g,x)::bD f v r
theorem xS(f g:Str)(v:V): ∀fs:List (Str×V),(bD f v fs).lookup g=if g=f then some v else fs.lookup g
 |[]=>by
  show List.lookup g [(f,v)]=_
  by_cases h:g=f
  ·have hb:(g==f)=true:=beq_iff_eq.mpr h;simp only [List.lookup,hb,if_pos h]
  ·have hb:(g==f)=false:=beq_eq_false_iff_ne.mpr h;simp only [List.lookup,hb,if_neg h]
 |(k,x)::r=>by
  have ih:=xS f g v r;rw[show bD f v ((k,x)::r)=(if k=f then(k,v)::r else(k,x)::bD f v r) from rfl]
  by_cases hk:k=f
  ·rw[if_pos hk]
   by_cases h:g=k
   ·have hb:(g==k)=true:=beq_iff_eq.mpr h;simp only [List.lookup,hb,if_pos (h.trans hk)]
   ·have hb:(g==k)=false:=beq_eq_false_iff_ne.mpr h;simp only [List.lookup,hb,if_neg (fun e:g=f=>h (e.trans hk.symm))]
  ·rw[if_neg hk]
   by_cases h:g=k
   ·have hb:(g==k)=true:=beq_iff_eq.mpr h;simp only [List.lookup,hb,if_neg (fun e:g=f=>hk (h.symm.trans e))]
   ·have hb:(g==k)=false:=beq_eq_false_iff_ne.mpr h;simp only [List.lookup,hb];exact ih
theorem rh(f:Str)(v:V): ∀fs:List (Str×V),f∈(bD f v fs).map (·.1)/\ ∀g,g∈fs.map (·.1)->g∈(bD f v fs).map (·.1)
 |[]=>⟨by simp [bD],fun g h=>by simp at h⟩
 |(k,x)::r=>by
  obtain⟨i1,i2⟩:=rh f v r;rw[show bD f v ((k,x)::r)=(if k=f then(k,v)::r else(k,x)::bD f v r) from rfl]
  by_cases hk:k=f
  ·rw[if_pos hk];subst hk;exact⟨by simp,fun g h=>by simpa using h⟩
  ·rw[if_neg hk];refine⟨?_,fun g h=>?_⟩
   ·rw[List.map_cons];exact List.mem_cons_of_mem _ i1
   ·rw[List.map_cons] at h ⊢;rcases List.mem_cons.mp h with e |e
    ·exact List.mem_cons.mpr (.inl e)
    ·exact List.mem_cons_of_mem _ (i2 g e)
theorem DP(f:Str)(v:V): ∀fs:List (Str×V),(bD f v fs).length<=fs.length+1
 |[]=>by simp [bD]
 |(k,x)::r=>by
  have ih:=DP f v r;rw[show bD f v ((k,x)::r)=(if k=f then(k,v)::r else(k,x)::bD f v r) from rfl]
  by_cases hk:k=f
  ·rw[if_pos hk,List.length_cons,List.length_cons];omega
  ·rw[if_neg hk,List.length_cons,List.length_cons];omega
theorem di.some_of{v:V}{o:Option Value}(r:di (some v) o): ∃u,o=some u/\RelV v u:=by
 cases o with
 |none=>exact(show False from r).elim
 |some u=>exact⟨u,rfl,r⟩
theorem di.none_of{o:Option Value}(r:di none o):o=none:=by
 cases o with
 |none=>rfl
 |some u=>exact(show False from r).elim
theorem ET{v:V}{u:Value}(r:RelV v u):PySem.W.handedIn u=true:=by
 cases v with
 |aN=>cases (show u=Value.none from r);rfl
 |bl b=>cases (show u=Value.bool b from r);rfl
 |int i=>obtain⟨t,e⟩:=(show ∃t,u=Value.int i t from r);cases e;rfl
 |str x=>obtain⟨t,e⟩:=(show ∃t,u=Value.str x t from r);cases e;rfl
 |eU b=>obtain⟨t,e⟩:=(show ∃t,u=Value.bytes b t from r);cases e;rfl
 |lW b=>obtain⟨t,e⟩:=(show ∃t,u=Value.float b t from r);cases e;rfl
 |ref a=>cases (show u=Value.ref a from r);rfl
 |ty n=>cases (show u=Value.type n from r);rfl
section
variable{P:Program}{w:World}{H H':Hp}{h h':Heap}{a C dx:Addr}{fs lX:List (Str×V)}
theorem vx(aw:bY P w H h)(e:H a=some (.ins C dx fs)): ∃mA,m5 h a dx C mA/\(∀f,di (fs.lookup f) (mA f))/\PySem.Within mA (fs.map (·.1))/\fs.length<=1000/\H dx=some (.own a):=by
 obtain⟨d,z,ne,ob,mA,n,r,q⟩:=(show bG P w H h a (.ins C dx fs) from aw a _ e);exact⟨mA,⟨ob,n,ne⟩,r,q,z,d⟩
end
structure ie(K:FG)(C:Addr):Prop where
 pg:PySem.W.plainGet K C Str.empty=true
 hd:PySem.W.hasDictIn K C=true
 po:PySem.W.plainOver K C=true
 sa:PySem.W.findIn K (.ref C) "__setattr__"=some (some (.builtin "object.__setattr__"))
theorem ie.get{K:FG}{C:Addr}(c:ie K C)(f:Str):PySem.W.plainGet K C f=true:=c.pg
def cV(K:FG)(C:Addr)(f:Str):Prop:=PySem.W.findIn K (.ref C) f=some none
theorem cV.zO{K:FG}{C:Addr}{f:Str}(n:cV K C f):PySem.W.takerIn K C f=some none:=by
 unfold PySem.W.takerIn;rw[show PySem.W.findIn K (.ref C) f=some none from n];rfl
structure Meth(K:FG)(C:Addr)(m:Str)(f:Addr):Prop where
 at_:PySem.W.findIn K (.ref C) m=some (some (.ref f))
 fn:PySem.W.isFn K (.ref f)=true
 kp:PySem.W.keepIn K (.ref f)=true
section
variable{X:Cx}{aa:List (Addr×Obj)}{σ:St}{H:Hp}{s:Shared}{a C dx:Addr}{fs:List (Str×V)}{f:Str}{v:V}{A:Around}{E:Value->Shared->Prop}
theorem Ee{b:Bool}{Q:Value->Shared->Prop}(I:Inv X aa σ H s)(e:H a=some (.ins C dx fs))(c:ie X.K C)(n:cV X.K C f)(l:fs.lookup f=some v)
  (h: ∀u s',Inv X aa σ H s'->RelV v u->Q u s'):wpAny (model X.prog X.w) A (getAttr (.ref a) f b) Q E s:=by
 obtain⟨mA,O,r,_,_,_⟩:=vx I.aw e;obtain⟨u,hu,ru⟩:=di.some_of (v:=v) (o:=mA f) (by rw[<-l];exact r f);exact get_map I.bN O (c.get f) c.hd n hu (ET ru) (h u _ (I.tok _) ru)
theorem Ef{m:Str}{g:Addr}{pl:Sem Bool}{Q:Value×List Value->Shared->Prop}(I:Inv X aa σ H s)(e:H a=some (.ins C dx fs))(c:ie X.K C)(k:Meth X.K C m g)(l:fs.lookup m=none)
  (h:Q (.ref g,[.ref a]) s):wpAny (model X.prog X.w) A (getMethod (.ref a) m pl) Q E s:=by
 obtain⟨mA,O,r,_,_,_⟩:=vx I.aw e;have hn:mA m=none:=di.none_of (by rw[<-l];exact r m);exact Qp I.bN O (c.get m) k.at_ k.fn hn h
theorem Ex{y:V}{u:Value}{Q:Unit->Shared->Prop}(I:Inv X aa σ H s)(e:H a=some (.ins C dx fs))(c:ie X.K C)(n:cV X.K C f)(hl:fs.length<1000)(ry:RelV y u)
  (h: ∀s',Inv X aa σ (upd H a (.ins C dx (bD f y fs))) s'->Q () s'):wpAny (model X.prog X.w) A (setAttr (.ref a) f u) Q E s:=by
 obtain⟨mA,O,r,wi,_,ho⟩:=vx I.aw e;have hz:(fs.map (·.1)).length<=sizeLine:=by rw[List.length_map,sizeLine_eq];omega
 refine Sw I.bN O c.sa c.po n.zO c.hd wi hz fun h' O' sb=>h _ ?_;have hd: ∃o,h'.get? dx=some o:=let⟨o,_,_,e',_⟩:=O'.ns;⟨o,e'⟩;refine I.write (x:=a) (e:=dx) (by rw[e];exact True.intro) (.inr ho) (fun b q hb z=>(sb.2 b hb).trans z) hd ?_;refine⟨by rw[aj O.ne];exact ho,?_,O.ne,O'.obj,_,O'.ns,fun g=>?_,fun g hg=>?_⟩
 ·have:=DP f y fs;omega
 ·show di ((bD f y fs).lookup g) (if g=f then some u else mA g);rw[xS]
  by_cases q:g=f
  ·rw[if_pos q,if_pos q];exact ry
  ·rw[if_neg q,if_neg q];exact r g
 ·by_cases q:g=f
  ·rw[q];exact(rh f y fs).1
  ·refine(rh f y fs).2 g (wi g fun z=>hg ?_);show(if g=f then some u else mA g)=none;rw[if_neg q];exact z
theorem Inv.made(I:Inv X aa σ H s):Inv X aa σ (upd (upd H s.heap.objs.size (.own (s.heap.objs.size+1))) (s.heap.objs.size+1) (.ins C s.heap.objs.size []))
  {s with heap:=(s.heap.push PySem.W.emptyDict).push (PySem.W.instObj C s.heap.objs.size)}:=by
 have e1:(s.heap.push PySem.W.emptyDict).get? s.heap.objs.size=some PySem.W.emptyDict:=Heap.get?_push_size s.heap rfl;have e2:((s.heap.push PySem.W.emptyDict).push (PySem.W.instObj C s.heap.objs.size)).get? (s.heap.objs.size+1)=some (PySem.W.instObj C s.heap.objs.size):=by
  have:=Heap.get?_push_size (s.heap.push PySem.W.emptyDict) (o:=PySem.W.instObj C s.heap.objs.size) rfl
  rwa [Heap.size_push] at this
 have e3:(s.heap.push PySem.W.emptyDict).Ns s.heap.objs.size (fun _=>none):=⟨PySem.W.emptyDict, #[],_,e1,rfl,(fun e he=>absurd he (by simp)),fun _=>rfl⟩;have I1:=I.laid (a:=s.heap.objs.size) (o:= .own (s.heap.objs.size+1)) (h':=s.heap.push PySem.W.emptyDict) (t':=s.toks) (fun b u q=>Heap.get?_push_of_some _ q) (Nat.le_refl _) ⟨_,e1⟩;refine I1.laid (a:=s.heap.objs.size+1) (o:= .ins C s.heap.objs.size []) (t':=s.toks) (fun b u q=>Heap.get?_push_of_some _ q) (Nat.le_of_eq (Heap.size_push _ _)) ?_;have ne:s.heap.objs.size≠s.heap.objs.size+1:=Nat.ne_of_lt (Nat.lt_succ_self _);refine⟨by rw[aj ne,au],Nat.zero_le _,ne,e2,fun _=>none,(Heap.Ns1.of_empty e3).at fun o q=>Heap.get?_push_of_some _ q,fun _=>True.intro,fun y hy=>absurd rfl hy⟩
theorem Hd{prog:Program}{w:World}{env:Env}{e:Expr}{f:Str}{pos:Pos}{s:Shared}{Q:Value->Shared->Prop}(hb:attributeBase e f env (eval e env)=eval e env)
  (h:wpAny (model prog w) A (eval e env) (fun o s₁=>wpAny (model prog w) A (getAttr o f true) Q E s₁) E s):wpAny (model prog w) A (eval (.Attribute e f pos) env) Q E s:=
 Attribute_any_ h (by rw[arm_eval_Attribute,hb])
end
inductive JF(K:FG)(f:Str)(Q:VK)(x:V)(H1:Hp):Prop
 |mk a C dx fs v:x= .ref a->H1 a=some (.ins C dx fs)->ie K C->cV K C f->fs.lookup f=some v->Q v H1->JF K f Q x H1
def sN(K:FG)(ta:TE)(f:Str):TE:=fun σ H Q=>ta σ H (JF K f Q)
inductive Jp(K:FG)(f:Str)(D:Ends)(σ:St)(y x:V)(H2:Hp):Prop
 |mk a C dx fs:x= .ref a->H2 a=some (.ins C dx fs)->ie K C->cV K C f->fs.length<1000->D.nx σ (upd H2 a (.ins C dx (bD f y fs)))->Jp K f D σ y x H2
def TU(K:FG)(ta:TE)(f:Str)(D:Ends)(σ:St):VK:=fun y H1=>ta σ H1 (Jp K f D σ y)
def V0(K:FG)(ta tv:TE)(f:Str):TS:=fun D σ H=>tv σ H (TU K ta f D σ)
def zS(X:Cx)(op:Operator)(rd:V->V->Hp->VK->Prop):Prop:=
 ∀(aa:List (Addr×Obj))(s:Shared)(σ:St)(H:Hp)(x y:V)(u v:Value)(Q:VK),Inv X aa σ H s->RelV x u->RelV y v->rd x y H Q->wpAny (model X.prog X.w) X.A (inplaceOp op u v) (EP X aa σ Q) X.xe s
inductive Fe(f:Str)(D:Ends)(σ:St)(a C:Addr)(z:V)(H3:Hp):Prop
 |mk Au lX:H3 a=some (.ins C Au lX)->lX.length<1000->D.nx σ (upd H3 a (.ins C Au (bD f z lX)))->Fe f D σ a C z H3
def PR(rd:V->V->Hp->VK->Prop)(f:Str)(D:Ends)(σ:St)(a C:Addr)(v:V):VK:=fun y H2=>rd v y H2 (Fe f D σ a C)
inductive Fd(K:FG)(tv:TE)(rd:V->V->Hp->VK->Prop)(f:Str)(D:Ends)(σ:St)(x:V)(H1:Hp):Prop
 |mk a C dx fs v:x= .ref a->H1 a=some (.ins C dx fs)->ie K C->cV K C f->fs.lookup f=some v->tv σ H1 (PR rd f D σ a C v)->Fd K tv rd f D σ x H1
def Sr(K:FG)(ta tv:TE)(rd:V->V->Hp->VK->Prop)(f:Str):TS:=fun D σ H=>ta σ H (Fd K tv rd f D σ)
section
variable{X:Cx}{o e cO:Expr}{f:Str}{pos dj pV:Pos}{ta tv:TE}
theorem aQ(he:PE X e ta)(hb:attributeBase e f X.env (eval e X.env)=eval e X.env):PE X (.Attribute e f pos) (sN X.K ta f):=by
 intro aa s σ H Q I h;refine Hd hb (aF (he aa s σ H _ I h) fun u s1 ⟨x,H1,I1,rx,a,C,dx,fs,v,ex,ea,c,n,l,q⟩=>?_);subst ex;obtain rfl:u=Value.ref a:=rx;exact Ee I1 ea c n l fun u' s2 I2 ru=>⟨v,H1,I2,ru,q⟩
theorem cZ(ha:PE X o ta)(hv:PE X cO tv)(hs:swapsWith cO (some (.Attribute o f dj)) pos.line X.env=pure false):PS X (.Assign [.Attribute o f dj] cO pos) (V0 X.K ta tv f):=by
 intro aa s σ H D I h;refine plainObj_wpAny_Assign_Attribute (aF (hv aa s σ H _ I h) fun u s1 ⟨y,H1,I1,ry,q⟩=>aF (ha aa s1 σ H1 _ I1 q) fun ov s2 ⟨x,H2,I2,rx,a,C,dx,fs,ex,ea,c,n,l,q2⟩=>?_) hs;subst ex;obtain rfl:ov=Value.ref a:=rx;exact Ex I2 ea c n l ry fun s3 I3=>⟨σ,_,I3,q2⟩
theorem u7{op:Operator}{rd:V->V->Hp->VK->Prop}(ha:PE X o ta)(hv:PE X cO tv)(wY:zS X op rd):PS X (.AugAssign (.Attribute o f pV) op cO pos) (Sr X.K ta tv rd f):=by
 intro aa s σ H D I h;refine wpAny_AugAssign_AttributeAny (aF (ha aa s σ H _ I h) fun ov s1 ⟨x,H1,I1,rx,a,C,dx,fs,v,ex,ea,c,n,l,q⟩=>?_);subst ex;obtain rfl:ov=Value.ref a:=rx;refine Ee I1 ea c n l fun u s2 I2 ru=>aF (hv aa s2 σ H1 _ I2 q) fun w3 s3 ⟨y,H2,I3,ry,q3⟩=>aF (wY aa s3 σ H2 v y u w3 _ I3 ru ry q3) fun w4 s4 ⟨z,H3,I4,rz,Au,lX,Wv,l',q4⟩=>?_;exact Ex I4 Wv c n l' rz fun s5 I5=>⟨σ,_,I5,q4⟩
inductive KL(x y:V)(H:Hp)(Q:VK):Prop
 |mk i j:x= .int i->y= .int j->Q (.int (i+j)) H->KL x y H Q
theorem Tb:zS X .Add KL:=by
 rintro aa s σ H x y u v Q I rx ry ⟨i,j,rfl,rfl,q⟩;obtain⟨t,rfl⟩:=(show ∃t,u=Value.int i t from rx);obtain⟨t',rfl⟩:=(show ∃t',v=Value.int j t' from ry);exact PyProof.Rows.iadd_int ⟨.int (i+j),H,I.tok _,⟨_,rfl⟩,q⟩
end
section
variable{X:Cx}{aa:List (Addr×Obj)}{σ:St}{H:Hp}{s:Shared}{A:Around}{E:Value->Shared->Prop}{Q:Value->Shared->Prop}{c:Value}{b:Bool}
inductive eE(K:FG)(H:Hp):V->Value->Prop where
 |aN:eE K H .aN (.type "NoneType")
 |bl (x:Bool):eE K H (.bl x) (.type "bool")
 |int (i:Int):eE K H (.int i) (.type "int")
 |str (x:Str):eE K H (.str x) (.type "str")
 |lW (x:UInt64):eE K H (.lW x) (.type "float")
 |lst {a:Addr} {xs:List V} (e:H a=some (.lst xs)):eE K H (.ref a) (.type "list")
 |dk {a:Addr} {o:Obj} {xs:List V} (e:H a=some (.dk o (.lst xs))):eE K H (.ref a) (.type "list")
 |tup {a:Addr} {xs:List V} (e:H a=some (.tup xs)):eE K H (.ref a) (.type "tuple")
 |dK {a:Addr} {af:List (Key×V)} (e:H a=some (.dK af)):eE K H (.ref a) (.type "dict")
 |dT {a:Addr} {af:List (List Key×V)} (e:H a=some (.dT af)):eE K H (.ref a) (.type "dict")
 |ins {a C dx:Addr} {fs:List (Str×V)} (e:H a=some (.ins C dx fs)) (cl:ie K C) (ha:PySem.W.findIn K (.ref C) "__class__"=some (some (.builtin "object.__class__")))
   (hn:PySem.W.specialIn K (.builtin "object.__class__") "__get__"=some (some (.builtin "getset_descriptor.__get__"))) (eV:PySem.W.takesIn K (.builtin "object.__class__")=some true)
   (hm:PySem.W.mroIn K C (.type "object")=some true):eE K H (.ref a) (.ref C)
theorem Pj{x:V}{u t:Value}(I:Inv X aa σ H s)(rx:RelV x u)(ty:eE X.K H x t)(e:PySem.W.kitOne X.K t c=some b)(h: ∀tk,Q (.bool b) {s with toks:=tk}):
  wpAny (model X.prog X.w) A (call (.builtin "isinstance") [u,c]) Q E s:=by
 cases ty with
 |aN=>cases (show u=Value.none from rx);exact PySem.W.kia_one PySem.W.kitx_none I.bN True.intro e (fun z=>nomatch z) h
 |bl y=>cases (show u=Value.bool y from rx);exact PySem.W.kia_one PySem.W.kitx_bool I.bN True.intro e (fun z=>nomatch z) h
 |int i=>obtain⟨t,q⟩:=(show ∃t,u=Value.int i t from rx);cases q;exact PySem.W.kia_one PySem.W.kitx_int I.bN True.intro e (fun z=>nomatch z) h
 |str y=>obtain⟨t,q⟩:=(show ∃t,u=Value.str y t from rx);cases q;exact PySem.W.kia_one PySem.W.kitx_str I.bN True.intro e (fun z=>nomatch z) h
 |lW y=>obtain⟨t,q⟩:=(show ∃t,u=Value.float y t from rx);cases q;exact PySem.W.kia_one PySem.W.kitx_float I.bN True.intro e (fun z=>nomatch z) h
 | @lst a xs ea=>
  cases (show u=Value.ref a from rx);obtain⟨_,_,n,_,h1⟩:=(show bG X.prog X.w H s.heap a (.lst xs) from I.aw a _ ea);exact PySem.W.kia_one PySem.W.kitx_list I.bN ⟨_,h1,rfl⟩ e (fun z=>nomatch z) h
 | @dk a ob xs ea=>
  cases (show u=Value.ref a from rx);obtain⟨_,_,_,n,_,h1⟩:=(show bG X.prog X.w H s.heap a (.dk ob (.lst xs)) from I.aw a _ ea);exact PySem.W.kia_one PySem.W.kitx_list I.bN ⟨_,h1,rfl⟩ e (fun z=>nomatch z) h
 | @tup a xs ea=>
  cases (show u=Value.ref a from rx);obtain⟨_,_,_,p⟩:=(show bG X.prog X.w H s.heap a (.tup xs) from I.aw a _ ea);obtain⟨o,h1,h2,_⟩:=p;exact PySem.W.kia_one PySem.W.kitx_tuple I.bN ⟨o,h1,h2⟩ e (fun z=>nomatch z) h
 | @dK a af ea=>
  cases (show u=Value.ref a from rx);obtain⟨_,_,vs,_,p⟩:=(show bG X.prog X.w H s.heap a (.dK af) from I.aw a _ ea);obtain⟨o,es,ep,h1,h2,_⟩:=p;exact PySem.W.kia_one PySem.W.kitx_dict I.bN ⟨o,h1,h2.1⟩ e (fun z=>nomatch z) h
 | @dT a af ea=>
  cases (show u=Value.ref a from rx);obtain⟨_,_,xs,_,o,es,ep,h1,h2,_⟩:=(show bG X.prog X.w H s.heap a (.dT af) from I.aw a _ ea);exact PySem.W.kia_one PySem.W.kitx_dict I.bN ⟨o,h1,h2.1⟩ e (fun z=>nomatch z) h
 | @ins a C dx fs ea cl ha hn eV hm=>
  cases (show u=Value.ref a from rx);obtain⟨mA,O,_⟩:=vx I.aw ea;obtain⟨od,J,_⟩:=O.look;exact PySem.W.kia_one (PySem.W.kitx_own (cl.get _) cl.hd ha hn eV hm) I.bN J e (fun z=>nomatch z) h
end
structure az(k:Nat)(A:Around):Prop where
 hd:5<=k->A.handled=none
 dp:A.depth+3*k+5<recursionLimit
 un:A.units+16*k+200<cLine
theorem az.mono{j k:Nat}{A:Around}(r:az k A)(h:j<=k):az j A:=⟨fun q=>r.hd (by omega),by have:=r.dp;omega,by have:=r.un;omega⟩
theorem az.deeper{k:Nat}{A:Around}(r:az (k+1) A)(env:Env):az k (A.deeper env):=
 ⟨fun q=>r.hd (by omega),by have:=r.dp;show A.depth+1+3*k+5<_;omega,by have:=r.un;show A.units+3+16*k+200<_;omega⟩
theorem OS{A:Around}{C:Addr}{us:List Value}{kw:List (Str×Value)}:(A.under (.builtin "type.__call__" ⟨.ref C::us,kw⟩)).depth=A.depth+1:=by
 first |rfl |simp [Around.under,Code.weight,Code.isCreation,Code.isGuard,Code.isCaller,Code.frames,Code.isFrame,guardIds]
theorem OT{A:Around}{C:Addr}{us:List Value}{kw:List (Str×Value)}:(A.under (.builtin "type.__call__" ⟨.ref C::us,kw⟩)).units=A.units+1:=by
 first |rfl |simp [Around.under,Code.cUnits,Code.frames,Code.isFrame]
theorem az.make{k:Nat}{A:Around}(r:az (k+1) A)(C:Addr)(us:List Value)(kw:List (Str×Value)):az k (A.under (.builtin "type.__call__" ⟨.ref C::us,kw⟩)):=
 ⟨fun q=>r.hd (by omega),by have:=r.dp;rw[OS];omega,by have:=r.un;rw[OT];omega⟩
theorem az.depth{k:Nat}{A:Around}(r:az k A):A.depth<recursionLimit:=by have:=r.dp;omega
theorem az.units{k:Nat}{A:Around}(r:az k A):A.units+64<cLine:=by have:=r.un;omega
def iT:TA:=fun _ H Q=>Q [] H
def SG(Q:List V->Hp->Prop)(x:V):List V->Hp->Prop:=fun xs H2=>Q (x::xs) H2
def SE(tr:TA)(σ:St)(Q:List V->Hp->Prop):VK:=fun x H1=>tr σ H1 (SG Q x)
def iO(ta:TE)(tr:TA):TA:=fun σ H Q=>ta σ H (SE tr σ Q)
section
variable{X:Cx}{e:Expr}{es:List Expr}{te:TE}{t:TA}{pos:Pos}
theorem ag:PA X [] iT:=fun _ _ _ _ H Q I h=>Calls.spliced_nil ⟨[],H,I,.nil,h⟩
theorem ae(ha:PE X e te)(hr:PA X es t)(hs:starEach (e::es) X.env=(false,eval e X.env)::starEach es X.env:=by rfl):PA X (e::es) (iO te t):=by
 intro pos aa s σ H Q I h;rw[hs];show wpAny _ _ (spliced ((false,eval e X.env)::backTo pos (starEach es X.env))) _ _ s;refine Calls.spliced_cons (aF (ha aa s σ H _ I h) fun u s1 ⟨x,H1,I1,r1,q1⟩=>?_);exact aF (hr pos aa s1 σ H1 _ I1 q1) fun us s2 ⟨xs,H2,I2,r2,q2⟩=>⟨x::xs,H2,I2,.cons r1 r2,q2⟩
def Uj(Q:VK):List V->Hp->Prop:=fun xs H1=>xs.length<=sizeLine/\ ∀p,H1 p=none->Q (.ref p) (upd H1 p (.tup xs))
def V8(t:TA):TE:=fun σ H Q=>t σ H (Uj Q)
def Ug(Q:VK):List V->Hp->Prop:=fun xs H1=>xs.length<=sizeLine/\ ∀p,H1 p=none->Q (.ref p) (upd H1 p (.lst xs))
def V6(t:TA):TE:=fun σ H Q=>t σ H (Ug Q)
theorem sh{x1}(h:PA X es t):PE X (.Tuple es x1 pos) (V8 t):=by
 intro aa s σ H Q I hq;refine wpAny_Tuple_spliced (aF (h pos aa s σ H _ I hq) fun us s1 ⟨xs,H1,I1,r,z,q⟩=>⟨by rw[<-r.length];exact z,?_⟩);have hf:H1 s1.heap.objs.size=none:=I1.aw.fresh (Nat.le_refl _);refine⟨.ref s1.heap.objs.size,upd H1 s1.heap.objs.size (.tup xs),I1.laid (t':=s1.toks) (fun b u e=>Heap.get?_push_of_some _ e) (Nat.le_refl _) ?_,rfl,q _ hf⟩;exact⟨z,us,r,⟨_,Heap.get?_push_size _ rfl,rfl,_,rfl⟩⟩
theorem dw(h:PA X es t):PE X (.List es pos) (V6 t):=by
 intro aa s σ H Q I hq;refine wpAny_List_spliced (aF (h pos aa s σ H _ I hq) fun us s1 ⟨xs,H1,I1,r,z,q⟩=>⟨by rw[<-r.length];exact z,?_⟩);have hf:H1 s1.heap.objs.size=none:=I1.aw.fresh (Nat.le_refl _);refine⟨.ref s1.heap.objs.size,upd H1 s1.heap.objs.size (.lst xs),I1.laid (t':=s1.toks) (fun b u e=>Heap.get?_push_of_some _ e) (Nat.le_refl _) ?_,rfl,q _ hf⟩;exact⟨z,us,0,r,Heap.get?_push_size _ rfl⟩
end
abbrev Sp:=List V->Hp->VK->XK->Prop
abbrev fS:=List Env->Hp->Shared->XK->Value->Shared->Prop
structure m4(P:Program)(w:World)(K:FG)(mg:Str->Option Value)(base:Heap)(A:Around)(outer:List Env)(s:Shared)(H:Hp):Prop where
 frames:A.frames=some outer
 mod:Mod K mg base
 bs: ∀b o,base.get? b=some o->s.heap.get? b=some o/\H b=none
 ig:base.objs.size<=s.heap.objs.size
 fA:s.heap.FunFrames base outer
 jy: ∀b∈cK outer,H b=none
 aw:bY P w H s.heap
 bare:AllBare s.gens
inductive CE(outer:List Env)(P:Program)(w:World)(H:Hp)(s:Shared)(Q:VK)(u:Value)(s':Shared):Prop
 |mk v H':s'.os=s.os->AllBare s'.gens->Un (cK outer) [] H H' s.heap s'.heap->bY P w H' s'.heap->RelV v u->Q v H'->CE outer P w H s Q u s'
def CR(CX:fS)(outer:List Env)(P:Program)(w:World)(H:Hp)(s:Shared)(Q:VK)(E:XK)(r:Result)(s':Shared):Prop:=
 match r with
 | .ok (.ret u)=>CE outer P w H s Q u s'
 | .ok _=>False
 | .error e=>CX outer H s E e s'
structure aB(P:Program)(w:World)(K:FG)(mg:Str->Option Value)(base:Heap)(CX:fS)(k:Nat)(f:Addr)(fd:FuncData)(ps:List Str)(sp:Sp):Prop where
 len: ∀vs H Q E,sp vs H Q E->vs.length=ps.length
 run: ∀(A:Around)(outer:List Env)(s:Shared)(H:Hp)(args:Args)(us:List Value)(vs:List V)(Q:VK)(E:XK),az k A->m4 P w K mg base A outer s H->BindsTo s fd args (ps.zip us)->Vals vs us->sp vs H Q E->
  codeAny (model P w) A (.call (.ref f) args) (CR CX outer P w H s Q E) s
theorem m4.make{P:Program}{w:World}{K:FG}{mg:Str->Option Value}{base:Heap}{A:Around}{outer:List Env}{s:Shared}{H:Hp}(e:m4 P w K mg base A outer s H)(C:Addr)(us:List Value)(kw:List (Str×Value)):
  m4 P w K mg base (A.under (.builtin "type.__call__" ⟨.ref C::us,kw⟩)) outer s H:=⟨by first |exact e.frames |(simpa [Around.under,Code.envs,Code.isFrame,pushEnvs] using e.frames),e.mod,e.bs,e.ig,e.fA,e.jy,e.aw,e.bare⟩
section
variable{X:Cx}{aa:List (Addr×Obj)}{σ:St}{H:Hp}{s s':Shared}
theorem Inv.zW(I:Inv X aa σ H s):m4 X.prog X.w X.K X.mg X.base X.A X.stack s H:=
 ⟨I.ok.frames,I.ok.mod,I.bs,Nat.le_trans I.ok.ig I.sz,I.stack,I.vF,I.aw,I.bare⟩
theorem Inv.after{Q:VK}{u:Value}(I:Inv X aa σ H s)(h:CE X.stack X.prog X.w H s Q u s'):EP X aa σ Q u s':=by
 obtain⟨v,H',os,bare,un,aw,r,q⟩:=h;obtain⟨hh,g,d,t,X7⟩:=s';obtain rfl:X7=s.os:=os;exact⟨v,H',I.call (h':=hh) (g':=g) (d':=d) (t':=t) (ch:=[]) un aw bare (fun b z=>absurd z (by simp)),r,q⟩
end
def SD(sp:Sp)(cn:List V)(E:XK)(Q:VK):List V->Hp->Prop:=fun vs H1=>sp (vs++cn) H1 Q E
def mY(sp:Sp)(cn:List V)(E:XK)(t:TA):TE:=fun σ H Q=>t σ H (SD sp cn E Q)
def SM(sp:Sp)(cn:List V)(E:XK)(Q:VK)(x:V):List V->Hp->Prop:=fun vs H2=>sp (x::(vs++cn)) H2 Q E
inductive Iy(C:Addr)(m:Str)(sp:Sp)(cn:List V)(E:XK)(t:TA)(σ:St)(Q:VK)(x:V)(H1:Hp):Prop
 |mk a dx fs:x= .ref a->H1 a=some (.ins C dx fs)->fs.lookup m=none->t σ H1 (SM sp cn E Q x)->Iy C m sp cn E t σ Q x H1
def Kh(C:Addr)(m:Str)(sp:Sp)(cn:List V)(E:XK)(ta:TE)(t:TA):TE:=fun σ H Q=>ta σ H (Iy C m sp cn E t σ Q)
def SK(C:Addr)(sp:Sp)(cn:List V)(E:XK)(Q:VK):List V->Hp->Prop:=fun vs H1=> ∀x dx,H1 x=none->H1 dx=none->dx≠x->
 sp (.ref x::(vs++cn)) (upd (upd H1 dx (.own x)) x (.ins C dx [])) (fun v H2=>v= .aN/\Q (.ref x) H2) E
def Kg(C:Addr)(sp:Sp)(cn:List V)(E:XK)(t:TA):TE:=fun σ H Q=>t σ H (SK C sp cn E Q)
def Binds(K:FG)(fd:FuncData)(ps:List Str)(ds:List Value):Prop:=
 ∀(s:Shared)(us:List Value),K.In s.heap->(us++ds).length=ps.length->BindsTo s fd ⟨us,[]⟩ (ps.zip (us++ds))
theorem Binds.all{K:FG}{fd:FuncData}{ps:List Str}(h: ∀us:List Value,us.length=ps.length->bindArgs fd ⟨us,[]⟩=pure (ps.zip us)):Binds K fd ps []:=fun s us _ hl=>by
 rw[List.append_nil] at hl ⊢;exact .of_eq (h us hl)
def Passes(CX:fS)(X:Cx)(E:XK):Prop:= ∀(aa:List (Addr×Obj))(σ:St)(H:Hp)(s:Shared)(e:Value)(s':Shared),Inv X aa σ H s->CX X.stack H s E e s'->X.xe e s'
section
variable{X:Cx}{CX:fS}{k:Nat}{f C:Addr}{fd:FuncData}{ps:List Str}{sp:Sp}{cn:List V}{ds:List Value}{E:XK}{x m:Str}{p pos cJ:Pos}{e o:Expr}{es:List Expr}{ta:TE}{t:TA}
theorem vQ{aa:List (Addr×Obj)}{σ:St}{H:Hp}{s:Shared}{Q:VK}{us:List Value}{vs:List V}(F:aB X.prog X.w X.K X.mg X.base CX k f fd ps sp)(hr:az k X.A)(hb:Binds X.K fd ps ds)(hd:Vals cn ds)(hx:Passes CX X E)
  (I:Inv X aa σ H s) (r:Vals vs us) (h:sp (vs++cn) H Q E):wpAny (model X.prog X.w) X.A (call (.ref f) us) (EP X aa σ Q) X.xe s:=by
 have r2:Vals (vs++cn) (us++ds):=r.append hd;have hl:(us++ds).length=ps.length:=by rw[<-r2.length];exact F.len _ _ _ _ h
 refine wpAny_call (codeAny_mono (F.run X.A X.stack s H ⟨us,[]⟩ (us++ds) (vs++cn) Q E hr I.zW (hb s us I.bN hl) r2 h) fun r s' hq=>?_);cases r with
 |error e=>exact hx aa σ H s e s' I hq
 |ok fl=>
  cases fl with
  |ret u=>exact I.after hq
  |next=>exact False.elim hq
  |brk=>exact False.elim hq
  |cont=>exact False.elim hq
theorem Sg(F:aB X.prog X.w X.K X.mg X.base CX k f fd ps sp)(hr:az k X.A)(hg:Gl X x)(hm:X.mg x=some (.ref f))(hk:PySem.W.keepIn X.K (.ref f)=true)(hb:Binds X.K fd ps ds)(hd:Vals cn ds)(hx:Passes CX X E)
  (ha:PA X (e::es) t) (bC:(x==("__debug__":Str))=false:=by decide) (he:starEach (e::es) X.env=(false,eval e X.env)::starEach es X.env:=by rfl) (cz:(backTo pos (starEach es X.env)).any (·.1)=false:=by rfl):
  PE X (.Call (.Name x p) (e::es) [] pos) (mY sp cn E t):=by
 intro aa s σ H Q I h;refine wpAny_Call_Name_kw (jR I hg hm ?_ bC);refine PySem.W.callWith_K (h₀:=X.base) I.ok.mod.l7 hk (aF (ha pos aa s σ H _ I h) fun us s1 ⟨vs,H1,I1,r,q⟩=>⟨I1.bN,?_⟩) he cz;exact vQ F hr hb hd hx I1 r q
theorem bz{pl:Sem Bool}(he:PE X o ta)(c:ie X.K C)(hm:Meth X.K C m f)(F:aB X.prog X.w X.K X.mg X.base CX k f fd ps sp)(hr:az k X.A)(hb:Binds X.K fd ps ds)(hd:Vals cn ds)(hx:Passes CX X E)(ha:PA X (e::es) t)
  (bL:starEach (e::es) X.env=(false,eval e X.env)::starEach es X.env:=by rfl) (cz:(backTo pos (starEach es X.env)).any (·.1)=false:=by rfl)
  (ht:eval (.Call (.Attribute o m cJ) (e::es) [] pos) X.env=(do
   let ov <-eval o X.env
   standAt cJ.atName
   let(f,first) <-holding [ov] (getMethod ov m pl)
   callWith pos f first (backTo pos (starEach (e::es) X.env)) (backToKw pos (keywordEach [] X.env))):=by rfl):
  PE X (.Call (.Attribute o m cJ) (e::es) [] pos) (Kh C m sp cn E ta t):=by
 intro aa s σ H Q I h;refine PySem.W.methodCall_KW (pl:=pl) (aF (he aa s σ H _ I h) fun u s1 ⟨x,H1,I1,rx,a,dx,fs,ex,ea,l,q⟩=>?_) ht;subst ex;obtain rfl:u=Value.ref a:=rx;refine Ef I1 ea c hm l ?_;refine PySem.W.callWith_K (first:=[.ref a]) (h₀:=X.base) I.ok.mod.l7 hm.kp (aF (ha pos aa s1 σ H1 _ I1 q) fun us s2 ⟨vs,H2,I2,r,q2⟩=>⟨I2.bN,?_⟩) bL cz;exact vQ (us:= .ref a::us) (vs:= .ref a::vs) F hr hb hd hx I2 (.cons rfl r) q2
theorem cj{pl:Sem Bool}(he:PE X o ta)(c:ie X.K C)(hm:Meth X.K C m f)(F:aB X.prog X.w X.K X.mg X.base CX k f fd ps sp)(hr:az k X.A)(hb:Binds X.K fd ps ds)(hd:Vals cn ds)(hx:Passes CX X E)
  (ht:eval (.Call (.Attribute o m cJ) [] [] pos) X.env=(do
   let ov <-eval o X.env
   standAt cJ.atName
   let(f,first) <-holding [ov] (getMethod ov m pl)
   callWith pos f first (backTo pos (starEach [] X.env)) (backToKw pos (keywordEach [] X.env))):=by rfl):
  PE X (.Call (.Attribute o m cJ) [] [] pos) (Kh C m sp cn E ta iT):=by
 intro aa s σ H Q I h;refine PySem.W.methodCall_KW (pl:=pl) (aF (he aa s σ H _ I h) fun u s1 ⟨x,H1,I1,rx,a,dx,fs,ex,ea,l,q⟩=>?_) ht;subst ex;obtain rfl:u=Value.ref a:=rx;refine Ef I1 ea c hm l ?_;exact PySem.W.callWith_K0 (first:=[.ref a]) I1.bN hm.kp (vQ (us:=[.ref a]) (vs:=[.ref a]) F hr hb hd hx I1 (.cons rfl .nil) q)
structure Mk(K:FG)(C f:Addr):Prop where
 makes:PySem.W.makesIn K C=true
 init:PySem.W.findIn K (.ref C) "__init__"=some (some (.ref f))
 fn:PySem.W.isFn K (.ref f)=true
 kp:PySem.W.keepIn K (.ref C)=true
theorem Gq{aa:List (Addr×Obj)}{σ:St}{H:Hp}{s:Shared}{Q:VK}{us:List Value}{vs:List V}(M:Mk X.K C f)(F:aB X.prog X.w X.K X.mg X.base CX k f fd ps sp)(hr:az (k+1) X.A)(hb:Binds X.K fd ps ds)(hd:Vals cn ds)
  (hx:Passes CX X E) (I:Inv X aa σ H s) (r:Vals vs us)
  (h: ∀x dx,H x=none->H dx=none->dx≠x->sp (.ref x::(vs++cn)) (upd (upd H dx (.own x)) x (.ins C dx [])) (fun v H2=>v= .aN/\Q (.ref x) H2) E):
  wpAny (model X.prog X.w) X.A (call (.ref C) us) (EP X aa σ Q) X.xe s:=by
 have hq:=h (s.heap.objs.size+1) s.heap.objs.size (I.aw.fresh (Nat.le_succ _)) (I.aw.fresh (Nat.le_refl _)) (Nat.ne_of_lt (Nat.lt_succ_self _));have I2:=Inv.made (C:=C) I;have r2:Vals (V.ref (s.heap.objs.size+1)::(vs++cn)) (Value.ref (s.heap.objs.size+1)::(us++ds)):= .cons rfl (r.append hd);have hl:(Value.ref (s.heap.objs.size+1)::us++ds).length=ps.length:=by
  have e:=r2.length;rw[F.len _ _ _ _ hq] at e;exact e.symm
 refine wpAny_call (QC (f:=f) I.bN M.makes M.init (beq_iff_eq.mp M.fn) (codeAny_mono (F.run _ X.stack _ _ ⟨Value.ref (s.heap.objs.size+1)::us,[]⟩ (Value.ref (s.heap.objs.size+1)::(us++ds)) _ _ E (hr.make C us [])
  (I2.zW.make C us []) (hb _ (Value.ref (s.heap.objs.size+1)::us) I2.bN hl) r2 hq) fun r s' fY=>?_))
 cases r with
 |error e=>exact hx aa σ _ _ e s' I2 fY
 |ok fl=>
  cases fl with
  |ret u=>
   obtain⟨v,H',I3,rv,ev,q3⟩:=I2.after fY;subst ev;exact⟨rv,⟨V.ref (s.heap.objs.size+1),H',I3,rfl,q3⟩⟩
  |next=>exact False.elim fY
  |brk=>exact False.elim fY
  |cont=>exact False.elim fY
theorem fO(M:Mk X.K C f)(F:aB X.prog X.w X.K X.mg X.base CX k f fd ps sp)(hr:az (k+1) X.A)(hg:Gl X x)(hm:X.mg x=some (.ref C))(hb:Binds X.K fd ps ds)(hd:Vals cn ds)(hx:Passes CX X E)
  (ha:PA X (e::es) t) (bC:(x==("__debug__":Str))=false:=by decide) (he:starEach (e::es) X.env=(false,eval e X.env)::starEach es X.env:=by rfl) (cz:(backTo pos (starEach es X.env)).any (·.1)=false:=by rfl):
  PE X (.Call (.Name x p) (e::es) [] pos) (Kg C sp cn E t):=by
 intro aa s σ H Q I h;refine wpAny_Call_Name_kw (jR I hg hm ?_ bC);refine PySem.W.callWith_K (h₀:=X.base) I.ok.mod.l7 M.kp (aF (ha pos aa s σ H _ I h) fun us s1 ⟨vs,H1,I1,r,q⟩=>⟨I1.bN,?_⟩) he cz;exact Gq M F hr hb hd hx I1 r q
theorem Q0(M:Mk X.K C f)(F:aB X.prog X.w X.K X.mg X.base CX k f fd ps sp)(hr:az (k+1) X.A)(hg:Gl X x)(hm:X.mg x=some (.ref C))(hb:Binds X.K fd ps ds)(hd:Vals cn ds)(hx:Passes CX X E)
  (bC:(x==("__debug__":Str))=false:=by decide):PE X (.Call (.Name x p) [] [] pos) (Kg C sp cn E iT):=by
 intro aa s σ H Q I h;refine wpAny_Call_Name_kw (jR I hg hm ?_ bC);exact PySem.W.callWith_K0 I.bN M.kp (Gq (us:=[]) M F hr hb hd hx I .nil h)
end
section
variable{X:Cx}{CX:fS}{k:Nat}{f C:Addr}{fd:FuncData}{ps ks:List Str}{sp:Sp}{E:XK}{x m:Str}{p pos cJ Yy:Pos}{e o:Expr}{es:List Expr}{Zb:List Keyword}{te ta:TE}{t tk:TA}{nm:Option Str}
variable{g:List Value->List Value->List Value}{gV:List V->List V->List V}
end
structure aI(N P:List Str)(sc:Scope):Prop where
 kind:sc.kind= .function
 co:sc.isCoroutine=false
 gen:sc.isGenerator=false
 nd:N.Nodup
 pre:N.take P.length=P
 par: ∀x∈P,sc.names.lookup x=some .local∨sc.names.lookup x=some .cell
 Tq: ∀y∈sc.names,y.2≠ .free
theorem EL{kindOf:Str->Option NameKind}{x:Str}: ∀{binds:List (Str×Value)}{m:Str->Option Value},(∀v,(x,v)∉binds)->bindL kindOf binds m x=m x
 |[],_,_=>rfl
 |(n,v)::r,m,h=>by
  unfold bindL;rw[EL fun w hw=>h w (List.mem_cons_of_mem _ hw)]
  split
  ·have:x≠n:=by rintro rfl;exact h v List.mem_cons_self
   simp [this]
  ·rfl
theorem EJ{kindOf:Str->Option NameKind}{x:Str}: ∀{binds:List (Str×Value)}{m:Str->Option Value},(∀v,(x,v)∉binds)->bindC kindOf binds m x=m x
 |[],_,_=>rfl
 |(n,v)::r,m,h=>by
  unfold bindC;rw[EJ fun w hw=>h w (List.mem_cons_of_mem _ hw)]
  split
  ·rfl
  ·have:x≠n:=by rintro rfl;exact h v List.mem_cons_self
   simp [this]
theorem EK{kindOf:Str->Option NameKind}{x:Str}{v:Value}: ∀{P:List Str}{vs:List Value}{i:Nat}{m:Str->Option Value},P.Nodup->P[i]? =some x->vs[i]? =some v->kindOf x=some .local->
  bindL kindOf (P.zip vs) m x=some v
 |[],_,_,_,_,h,_,_=>by simp at h
 |_::_,[],_,_,_,_,h,_=>by simp at h
 |p::P,w::vs,0,m,nd,h1,h2,hk=>by
  simp at h1 h2;subst h1;subst h2;show bindL kindOf ((p,w)::P.zip vs) m p=_;unfold bindL;rw[EL fun v hv=>(List.nodup_cons.mp nd).1 (List.of_mem_zip hv).1,if_pos hk];simp
 |p::P,w::vs,i+1,m,nd,h1,h2,hk=>by
  show bindL kindOf ((p,w)::P.zip vs) m x=_;unfold bindL;exact EK (i:=i) (List.nodup_cons.mp nd).2 (by simpa using h1) (by simpa using h2) hk
theorem EI{kindOf:Str->Option NameKind}{x:Str}{v:Value}: ∀{P:List Str}{vs:List Value}{i:Nat}{m:Str->Option Value},P.Nodup->P[i]? =some x->vs[i]? =some v->kindOf x≠some .local->
  bindC kindOf (P.zip vs) m x=some v
 |[],_,_,_,_,h,_,_=>by simp at h
 |_::_,[],_,_,_,_,h,_=>by simp at h
 |p::P,w::vs,0,m,nd,h1,h2,hk=>by
  simp at h1 h2;subst h1;subst h2;show bindC kindOf ((p,w)::P.zip vs) m p=_;unfold bindC;rw[EJ fun v hv=>(List.nodup_cons.mp nd).1 (List.of_mem_zip hv).1,if_neg hk];simp
 |p::P,w::vs,i+1,m,nd,h1,h2,hk=>by
  show bindC kindOf ((p,w)::P.zip vs) m x=_;unfold bindC;exact EI (i:=i) (List.nodup_cons.mp nd).2 (by simpa using h1) (by simpa using h2) hk
def start(N:List Str)(vs:List V):St:=vs.map some++List.replicate (N.length-vs.length) none
def js(CX:fS)(cm:Bool)(P:Program)(w:World)(K:FG)(mg:Str->Option Value)(base:Heap)(N:List Str)(bK:Str)(ah:Scope)(f:Addr)(cd:Value)(A:Around)(outer:List Env)(s:Shared)(H:Hp)(E:XK):Cx where
 prog:=P
 w:=w
 K:=K
 mg:=mg
 base:=base
 A:=A.deeper (envOfC bK ah s.heap.objs.size f cd)
 N:=N
 dF:=s
 sP:=H
 env:=envOfC bK ah s.heap.objs.size f cd
 outer:=outer
 stack:=envOfC bK ah s.heap.objs.size f cd::outer
 ex:=[]
 calm:=cm
 fn:=fun _=>true
 pn:=[]
 xe:=fun e s'=>wpAny (model P w) (A.deeper (envOfC bK ah s.heap.objs.size f cd)) (leaving (envOfC bK ah s.heap.objs.size f cd) e) (fun _ Bf=>CX outer H s E e Bf) (fun e' Bf=>CX outer H s E e' Bf) s'
theorem FU{sc:Scope}{n:Nat}{x:Str}(h:sc.names.lookup x=some .cell): ∃c,(cellsFrom n sc.names []).lookup x=some c:=by
 have q:=PySem.W.cellsFrom_some sc.names n [] (.inl h);exact Option.isSome_iff_exists.mp q
theorem Ph{CX:fS}{cm:Bool}{P:Program}{w:World}{K:FG}{mg:Str->Option Value}{base:Heap}{N ps:List Str}{bK:Str}{ah:Scope}{f:Addr}{cd:Value}{A:Around}{outer:List Env}{s s1:Shared}{H:Hp}{E:XK}{us:List Value}{vs:List V}
  (S:aI N ps ah) (hd:cm=true->A.handled=none) (e0:m4 P w K mg base A outer s H) (hl:vs.length=ps.length) (r:Vals vs us)
  (x:InCallC s s.heap.objs.size (bindL (envOfC bK ah s.heap.objs.size f cd).kindOf (ps.zip us) fun _=>none) (cellsFrom (s.heap.objs.size+1) ah.names []) (bindC (envOfC bK ah s.heap.objs.size f cd).kindOf (ps.zip us) fun _=>none) s1):
  Inv (js CX cm P w K mg base N bK ah f cd A outer s H E) [] (start N vs) H s1:=by
 have cz:ps.length<=N.length:=by have:=congrArg List.length S.pre;rw[List.length_take] at this;omega
 obtain⟨h1,tk,rfl,hk⟩:=x.done;have qr: ∀b:Addr,b∉(js CX cm P w K mg base N bK ah f cd A outer s H E).ex:=fun b z=>absurd (show b∈([]:List Addr) from z) (by simp);refine⟨⟨e0.mod,S.kind,rfl,rfl,Nat.le_refl _,fun y z c h1 h2=>?_,fun y hy=>?_,fun y c _ h=>?_,hd,Around.frames_deeper e0.frames,.inr ⟨rfl,rfl⟩,fun b z=>absurd z (qr b),e0.bs,e0.ig,fun b _ _=>qr b,fun b z=>absurd z (qr b),e0.fA,e0.jy⟩,
  rfl,e0.bare,Un.kept hk,⟨_,x.toInCall.ns,fun i y v h1 h2 h3=>?_⟩,fun y c h=>⟨_,x.cell y c h⟩,e0.aw.fresh (Nat.le_refl _),fun y c h=>?_,fun p hp=>absurd (show p∈([]:List (Addr×Obj)) from hp) (by simp),e0.aw.kept hk,?_⟩
 ·exact name_of_addr x.apart (PySem.mem_of_lookup h1) (PySem.mem_of_lookup h2)
 ·have hy:ah.names.lookup y=some .cell∨ah.names.lookup y=some .free:=hy;rcases hy with hy |hy
  ·exact FU hy
  ·exact absurd rfl (S.Tq _ (PySem.mem_of_lookup hy))
 ·exact Nat.le_of_lt (x.above y c (PySem.mem_of_lookup h))
 ·have hi:i<vs.length:=by
   unfold start at h2
   by_cases hi:i<vs.length
   ·exact hi
   ·rw[List.getElem?_append_right (by simpa using hi)] at h2;rw[List.getElem?_replicate] at h2
    split at h2<;>cases h2
  have ha:vs[i]? =some v:=by
   unfold start at h2;rw[List.getElem?_append_left (by simpa using hi),List.getElem?_map] at h2;cases e:vs[i]? with
   |none=>rw[e] at h2;cases h2
   |some a=>rw[e] at h2;cases h2;rfl
  obtain⟨u,hu,rv⟩:=r.get ha;have hp:ps[i]? =some y:=by
   rw[<-S.pre,List.getElem?_take_of_lt (by omega)];exact h1
  have L6:ps.Nodup:=by rw[<-S.pre];exact S.nd.sublist (List.take_sublist _ _)
  refine⟨u,rv,?_⟩;rcases S.par y (List.mem_of_getElem? hp) with k |k
  ·exact .inl ⟨k,EK L6 hp hu k⟩
  ·obtain⟨c,e⟩:=FU (n:=s.heap.objs.size+1) k;refine .inr ⟨.inl k,c,e,?_⟩;have q:=x.cell y c e;rw[EI L6 hp hu (by show ah.names.lookup y≠_;rw[k];decide)] at q;exact q
 ·exact e0.aw.fresh (Nat.le_of_lt (x.above y c (PySem.mem_of_lookup h)))
 ·unfold start;show _=N.length;rw[List.length_append,List.length_map,List.length_replicate];omega
theorem Us{CX:fS}{cm:Bool}{P:Program}{w:World}{K:FG}{mg:Str->Option Value}{base:Heap}{k:Nat}{f:Addr}{name bK:Str}{iN:Arguments}{fz:List Stmt}{ah:Scope}{dV kV dX pm ay ct oc:Value}{an od:Option Addr}
  {iw:Array (Option Value)} {N ps:List Str} {sp:Sp} (lk:K.lookup f=some ⟨oc,od,.func (PySem.W.fnOf name bK iN fz ah dV kV dX pm an ay ct),iw⟩) (jA:PySem.W.codeIn K ay bK=true) (S:aI N ps ah)
  (len: ∀vs H Q E,sp vs H Q E->vs.length=ps.length) (WZ:cm=true->4<=k)
  (zC: ∀(A:Around)(outer:List Env)(s:Shared)(H:Hp)(vs:List V)(Q:VK)(E:XK),az k (A.deeper (envOfC bK ah s.heap.objs.size f ay))->sp vs H Q E->
   ∃t,gw (js CX cm P w K mg base N bK ah f ay A outer s H E) fz t/\t {nx:=fun _ H'=>Q .aN H',rt:=Q} (start N vs) H):
  aB P w K mg base CX (k+1) f (PySem.W.fnOf name bK iN fz ah dV kV dX pm an ay ct) ps sp:=by
 refine⟨len,fun A outer s H args us vs Q E hr e0 hb r i3=>?_⟩;have hl:=len _ _ _ _ i3;have KX:K.In s.heap:=e0.mod.l7.keeps fun b o e=>(e0.bs b o e).1;have bf:s.heap.NoLimit:=e0.mod.nolimit.keeps fun b o e=>(e0.bs b o e).1;have Ux: ∀y∈ps.zip us,ah.names.lookup y.1=some .local∨(ah.names.lookup y.1=some .cell/\((cellsFrom (s.heap.objs.size+1) ah.names []).lookup y.1).isSome=true):=fun⟨n,v⟩ hy=>by
  rcases S.par n (List.of_mem_zip hy).1 with q |q
  ·exact .inl q
  ·exact .inr ⟨q,PySem.W.cellsFrom_some _ _ _ (.inl q)⟩
 refine codeAny_call_function hr.depth (KX _ _ lk) rfl S.co S.gen rfl (PySem.W.codeRec_of KX jA) (hb _ _ _ _ ?_);refine wpAny_newFunctionEnv_cells S.kind Ux fun env he s1 x=>?_;subst he;refine⟨bf.keeps x.toInCall.keep,codeAny_func ?_⟩;obtain⟨t,ht,hq⟩:=zC A outer s H vs Q E (hr.deeper _) i3;have I:Inv (js CX cm P w K mg base N bK ah f ay A outer s H E) [] (start N vs) H s1:=Ph S (fun q=>hr.hd (by have:=WZ q;omega)) e0 hl r x;refine wpAny_mono (ht [] s1 (start N vs) H _ I hq) (fun fl s' hs=>?_) fun e s' hs=>hs;have fin: ∀{σ':St}{H':Hp}{v:V}{u:Value},Inv (js CX cm P w K mg base N bK ah f ay A outer s H E) [] σ' H' s'->RelV v u->Q v H'->CE outer P w H s Q u s':=
  fun {σ' H' v u} J rv q=>⟨v,H',J.os,J.bare,J.base,J.aw,rv,q⟩
 cases fl with
 |ret u=>
  obtain⟨v,σ',H',J,rv,q⟩:=hs;exact fin J rv q
 |next=>
  obtain⟨σ',H',J,q⟩:=hs;exact fin (v:=V.aN) (u:=Value.none) J rfl q
 |brk=>
  obtain⟨_,_,_,q⟩:=hs;exact False.elim q
 |cont=>
  obtain⟨_,_,_,q⟩:=hs;exact False.elim q
section
variable{X:Cx}{x:Str}{p pos:Pos}{e:Expr}{es:List Expr}{t:TA}{id T:String}{r:List V->Hp->VK->Prop}
def U1(r:List V->Hp->VK->Prop)(Q:VK):List V->Hp->Prop:=fun vs H1=>r vs H1 Q
def xj(r:List V->Hp->VK->Prop)(t:TA):TE:=fun σ H Q=>t σ H (U1 r Q)
theorem bV(hc:gh X (.builtin id) r)(hg:Gl X x)(hm:X.mg x=none)(hv:bootBuiltins x=some (.builtin id))(ha:PA X (e::es) t)(hn:x≠"__name__":=by decide)(bC:(x==("__debug__":Str))=false:=by decide)
  (he:starEach (e::es) X.env=(false,eval e X.env)::starEach es X.env:=by rfl) (cz:(backTo pos (starEach es X.env)).any (·.1)=false:=by rfl):PE X (.Call (.Name x p) (e::es) [] pos) (xj r t):=by
 intro aa s σ H Q I h;refine wpAny_Call_Name_kw (rZ I hg hm hv ?_ hn bC);exact PyProof.Rows.callWith_builtin1 (aF (ha pos aa s σ H _ I h) fun us s1 ⟨vs,H1,I1,r1,q1⟩=>hc aa s1 σ H1 vs us Q I1 r1 q1) he cz
theorem u6(hc:gh X (.type T) r)(hg:Gl X x)(hm:X.mg x=none)(hv:bootBuiltins x=some (.type T))(ha:PA X (e::es) t)(hn:x≠"__name__":=by decide)(bC:(x==("__debug__":Str))=false:=by decide)
  (he:starEach (e::es) X.env=(false,eval e X.env)::starEach es X.env:=by rfl) (cz:(backTo pos (starEach es X.env)).any (·.1)=false:=by rfl):PE X (.Call (.Name x p) (e::es) [] pos) (xj r t):=by
 intro aa s σ H Q I h;refine wpAny_Call_Name_kw (rZ I hg hm hv ?_ hn bC);exact PyProof.Rows.callWith_type1 (aF (ha pos aa s σ H _ I h) fun us s1 ⟨vs,H1,I1,r1,q1⟩=>hc aa s1 σ H1 vs us Q I1 r1 q1) he cz
end
end L2
namespace HT
open PySem PyProof.Rows
section
open PySem.SeqAt
open PySem.AutoSeq1 (wpAny_loadPart')
open PySem.MeetsSeq PySem.MeetsSeq2 PySem.MeetsSeq3
end
section
variable{prog:Program}{w:World}{A:Around}{E:Value->Shared->Prop}{s:Shared}
theorem Rz{t b:Addr}{vs ws:List Value}{Q:Value->Shared->Prop}(ht:IsTup s.heap t vs.toArray)(hb:IsTup s.heap b ws.toArray)(hv:vs≠[])
  (h1:ws=[]->Q (.ref t) s) (h2:ws≠[]->Q (.ref s.heap.objs.size) {s with heap:=s.heap.push {cls:= .type "tuple",data:= .seq (vs++ws).toArray}})
  (hsz:vs.length+ws.length<=sizeLine):wpAny (model prog w) A (binaryOp .Add (.ref t) (.ref b)) Q E s:=by
 obtain⟨⟨cls,dd,data,sl⟩,ho,hc,n,hd⟩:=id ht;obtain⟨⟨Vl,wD,data2,xh⟩,nA,ko,n2,fh⟩:=id hb;simp only at hc hd ko fh;subst hc hd ko fh;have e:vs.toArray++ws.toArray=(vs++ws).toArray:=by simp
 by_cases hw:ws=[]
 ·exact concat_meets ⟨_,ho,rfl⟩ ⟨_,nA,rfl⟩ noFill_tuple_add seq_tuple_add PySem.F.slot_tuple_add PySem.F.entry_tuple_add (PySem.F.args_tuple_add_2 _ _)
   (tuple_addW1 t b vs.toArray ws.toArray n n2 dd wD sl xh (by simpa using hv) (by simp [hw])) ⟨ho,nA,h1 hw⟩
 ·refine concat_meets ⟨_,ho,rfl⟩ ⟨_,nA,rfl⟩ noFill_tuple_add seq_tuple_add PySem.F.slot_tuple_add PySem.F.entry_tuple_add (PySem.F.args_tuple_add_2 _ _)
   (tuple_addW2 t b vs.toArray ws.toArray n n2 dd wD sl xh (by simpa using hv) (by simpa using hw) (by rw[List.size_toArray,List.size_toArray];exact hsz)) ⟨ho,nA,?_⟩
  rw[e];exact h2 hw
def bb(n d:Nat):Option Int->Nat
 |none=>d
 |some v=>if v<0 then(v+(n:Int)).toNat else min v.toNat n
theorem vC(n d k:Nat):bb n d (some (k:Int))=min k n:=by
 show(if(k:Int)<0 then((k:Int)+(n:Int)).toNat else min (k:Int).toNat n)=min k n;rw[if_neg (by omega),Int.toNat_natCast]
theorem TV(n d:Nat)(hd:d<=n)(o:Option Int):bb n d o<=n:=by
 cases o with
 |none=>exact hd
 |some v=>
  show(if v<0 then(v+(n:Int)).toNat else min v.toNat n)<=n
  by_cases hv:v<0
  ·rw[if_pos hv];omega
  ·rw[if_neg hv];exact Nat.min_le_right _ _
theorem Hg(v:Int)(n d:Nat):(if v<0 then max (v+(n:Int)) 0 else min v (n:Int))=((bb n d (some v):Nat):Int):=by
 show(if v<0 then max (v+(n:Int)) 0 else min v (n:Int))=(((if v<0 then(v+(n:Int)).toNat else min v.toNat n):Nat):Int)
 by_cases hv:v<0
 ·simp only [if_pos hv];omega
 ·simp only [if_neg hv];omega
theorem OH(lo hi:Option Int)(n:Nat):Builtin.Slice.sliceAdjust lo hi 1 (n:Int)=(((bb n 0 lo:Nat):Int),((bb n n hi:Nat):Int)):=by
 have h1: ¬((1:Int)<0):=by omega
 unfold Builtin.Slice.sliceAdjust;simp only [h1,if_false];refine Prod.ext ?_ ?_
 ·cases lo with
  |none=>rfl
  |some v=>exact Hg v n 0
 ·cases hi with
  |none=>rfl
  |some v=>exact Hg v n n
theorem O4(i j:Nat):Builtin.Slice.slicePlaces (i:Int) (j:Int) 1=j-i:=by
 unfold Builtin.Slice.slicePlaces;have h1:(1:Int)>0:=by omega
 simp only [h1,if_true,Int.ediv_one]
 split<;>omega
theorem Ey{v:Value}{o:Option Int}{Q:Option Int->Shared->Prop}(p:IsPart v o)(h:Q o s):wpAny (model prog w) A (Builtin.Slice.slicePartIndex v) Q E s:=by
 cases p with
 |none=>exact slicePart_none h
 |int i t=>exact slicePart_int h
theorem Cs{sl:Addr}{vl vu:Value}{lo hi:Option Int}{n:Nat}{Q:Int×Int×Nat->Shared->Prop}(hs:s.heap.IsSliceOf sl vl vu .none)(pl:IsPart vl lo)(pu:IsPart vu hi)
  (h:Q (((bb n 0 lo:Nat):Int),1,bb n n hi-bb n 0 lo) s):wpAny (model prog w) A (Builtin.Slice.sliceApplied (.ref sl) (pure (n:Int))) Q E s:=by
 obtain⟨os,nB,wO,tJ⟩:=id hs;unfold Builtin.Slice.sliceApplied Builtin.Slice.sliceFields;refine wpAny_bind (wpAny_bind (wpAny_field nB tJ (x:=vl) rfl (wpAny_bind (wpAny_field nB tJ (x:=vu) rfl (wpAny_bind (wpAny_field nB tJ (x:= .none) rfl (wpAny_pure ?_)))))));refine wpAny_bind (slicePart_none ?_);show wpAny _ _ (if((1:Int)==0)=true then _ else _) _ _ s;rw[if_neg (by decide)];refine wpAny_bind (Ey pl (wpAny_bind (Ey pu (wpAny_bind (wpAny_pure ?_)))));show wpAny _ _ (match Builtin.Slice.sliceAdjust lo hi 1 (n:Int) with |(lo,hi)=>pure (lo,(1:Int),Builtin.Slice.slicePlaces lo hi 1)) _ _ s;rw[OH lo hi n];show wpAny _ _ (pure (((bb n 0 lo:Nat):Int),(1:Int),Builtin.Slice.slicePlaces ((bb n 0 lo:Nat):Int) ((bb n n hi:Nat):Int) 1)) _ _ s;rw[O4];exact wpAny_pure h
theorem Q1(xs:Array Value)(i k:Nat):((List.range k).filterMap fun(m:Nat)=>xs[((i:Int)+(m:Int)*1).toNat]?).toArray=((xs.toList.drop i).take k).toArray:=by
 have e:(fun(m:Nat)=>xs[((i:Int)+(m:Int)*1).toNat]?)=fun m=>xs[i+m]? :=by
  funext m
  have:((i:Int)+(m:Int)*1).toNat=i+m:=by omega
  rw[this]
 rw[e];have:=pick_run xs i k;rw[List.filterMap_map] at this;have e2:((fun x=>xs[x]?)∘fun x=>i+x)=fun m=>xs[i+m]? :=rfl;rw[e2] at this;rw[this]
theorem MG{t sl:Addr}{items:Array Value}{vl vu:Value}{lo hi:Option Int}{Q:Value->Shared->Prop}(ht:IsTup s.heap t items)(hs:s.heap.IsSliceOf sl vl vu .none)(pl:IsPart vl lo)(pu:IsPart vu hi)
  (hw: ¬(bb items.size 0 lo=0/\bb items.size items.size hi=items.size))
  (h:Q (.ref s.heap.objs.size) {s with heap:=s.heap.push {cls:= .type "tuple",data:= .seq ((items.toList.drop (bb items.size 0 lo)).take (bb items.size items.size hi-bb items.size 0 lo)).toArray}})
  (hsz:items.size<=sizeLine):wpAny (model prog w) A (getItem (.ref t) (.ref sl)) Q E s:=by
 have vX:sizeOk (.seq ((items.toList.drop (bb items.size 0 lo)).take (bb items.size items.size hi-bb items.size 0 lo)).toArray):=by
  show((items.toList.drop (bb items.size 0 lo)).take (bb items.size items.size hi-bb items.size 0 lo)).toArray.size<=sizeLine;rw[List.size_toArray,List.length_take,List.length_drop,Array.length_toList];omega
 have hj:bb items.size items.size hi<=items.size:=TV _ _ (Nat.le_refl _) hi;obtain⟨os,nB,wO,tJ⟩:=id hs;have AD:s.TypeIs (.ref sl) "slice":=⟨os,nB,wO⟩;unfold getItem
 try with_reducible refine wpAny_holding ?_
 first |refine wpAny_bind (wpAny_pure ?_) |skip
 refine wpAny_bind (wpAny_sequenceKey ht.typeIs (by decide) ?_);refine wpAny_bind (wpAny_callSpecial?_slot (name:=Str.ofString "__getitem__") ht.typeIs PyProof.Rows.slot_tuple_getitem
  (wpAny_call_entry PyProof.Rows.slot_tuple_getitem ht.typeIs entry_tuple_getitem ?_ (args_tuple_getitem _ _)))
 show wpAny _ _ (Builtin.Tuple.tupleItemsOf (.ref t)>>=_) _ _ s;refine wpAny_bind (tupleItemsOf_ ht ?_);refine wpAny_bind (wpAny_typeOf AD ?_);rw[if_pos (by decide)];refine wpAny_bind (Cs hs pl pu ?_);have nz: ¬((((bb items.size 0 lo:Nat):Int)==0&&(1:Int)==1&&(bb items.size items.size hi-bb items.size 0 lo)==items.size)=true):=by
  intro q;rw[Bool.and_eq_true,Bool.and_eq_true] at q;have q1:((bb items.size 0 lo:Nat):Int)=0:=eq_of_beq q.1.1;have q2:bb items.size items.size hi-bb items.size 0 lo=items.size:=eq_of_beq q.2;exact hw ⟨by omega,by omega⟩
 show wpAny _ _ (if(((bb items.size 0 lo:Nat):Int)==0&&(1:Int)==1&&(bb items.size items.size hi-bb items.size 0 lo)==items.size)=true then _ else _) _ _ s;rw[if_neg nz,Q1]
 first
  |exact wpAny_bind (m:=Builtin.Tuple.tupleExact _) (wpAny_newObj_type (wpAny_pure ⟨_,rfl,wpAny_pure h⟩) vX)
  |exact wpAny_bind (m:=Builtin.Tuple.tupleExact _) (wpAny_newObj_type (wpAny_bind (wpAny_pure (wpAny_pure ⟨_,rfl,wpAny_pure h⟩))) vX)
  |exact wpAny_bind (wpAny_bind (m:=Builtin.Tuple.tupleExact _) (wpAny_newObj_type (wpAny_pure (wpAny_pure ⟨_,rfl,wpAny_pure h⟩)) vX))
  |exact wpAny_bind (wpAny_bind (m:=Builtin.Tuple.tupleExact _) (wpAny_newObj_type (wpAny_pure ⟨_,rfl,wpAny_pure h⟩) vX))
end
end HT
namespace L2
open PySem PySem.Spec PyProof.Rows
abbrev TO:=St->Hp->(Option Int->Hp->Prop)->Prop
def PO(X:Cx)(e:Option Expr)(t:TO):Prop:=
 ∀(aa:List (Addr×Obj))(s:Shared)(σ:St)(H:Hp)(Q:Option Int->Hp->Prop),Inv X aa σ H s->t σ H Q->
  wpAny (model X.prog X.w) X.A (evalPart e X.env) (fun u s'=> ∃o H',Inv X aa σ H' s'/\IsPart u o/\Q o H') X.xe s
inductive Iz(Q:Option Int->Hp->Prop)(x:V)(H1:Hp):Prop
 |mk i:x= .int i->Q (some i) H1->Iz Q x H1
def Va(t:TE):TO:=fun σ H Q=>t σ H (Iz Q)
section
variable{X:Cx}{e:Expr}{te:TE}{lo hi:Option Expr}{tl th:TO}{pos p2:Pos}
theorem gW(h:PE X e te):PO X (some e) (Va te):=by
 intro aa s σ H Q I hw;rw[evalPart_some];refine aF (h aa s σ H _ I hw) fun u s1 ⟨x,H1,I1,r1,q1⟩=>?_;obtain⟨i,rfl,q⟩:=q1;obtain⟨t,rfl⟩:=r1;exact⟨some i,H1,I1,.int i t,q⟩
def wy(X:Cx)(r:V->Option Int->Option Int->Hp->VK->Prop):Prop:=
 ∀(aa:List (Addr×Obj))(s:Shared)(σ:St)(H:Hp)(x:V)(v vl vu:Value)(lo hi:Option Int)(sl:Addr)(Q:VK),Inv X aa σ H s->RelV x v->s.heap.IsSliceOf sl vl vu .none->IsPart vl lo->IsPart vu hi->r x lo hi H Q->
  ∃T id,typeLookup (.type T) "__getitem__"=pure (some (.builtin id))/\s.TypeIs v T/\wpAny (model X.prog X.w) X.A (getItem v (.ref sl)) (EP X aa σ Q) X.xe s
def Vd(r:V->Option Int->Option Int->Hp->VK->Prop)(Q:VK)(x:V)(l:Option Int):Option Int->Hp->Prop:=fun u H3=>r x l u H3 Q
def Vc(r:V->Option Int->Option Int->Hp->VK->Prop)(th:TO)(σ:St)(Q:VK)(x:V):Option Int->Hp->Prop:=fun l H2=>th σ H2 (Vd r Q x l)
def Vb(r:V->Option Int->Option Int->Hp->VK->Prop)(tl th:TO)(σ:St)(Q:VK):VK:=fun x H1=>tl σ H1 (Vc r th σ Q x)
def Yj(r:V->Option Int->Option Int->Hp->VK->Prop)(te:TE)(tl th:TO):TE:=fun σ H Q=>te σ H (Vb r tl th σ Q)
theorem o_{r:V->Option Int->Option Int->Hp->VK->Prop}(hr:wy X r)(he:PE X e te)(hl:PO X lo tl)(hu:PO X hi th):PE X (.Subscript e (.Slice lo hi none p2) pos) (Yj r te tl th):=by
 intro aa s σ H Q I h;refine Subscript_ (aF (he aa s σ H _ I h) fun v s1 ⟨x,H1,I1,r1,q1⟩=>?_);refine wpAny_Slice (aF (hl aa s1 σ H1 _ I1 q1) fun vl s2 ⟨l,H2,I2,pl,q2⟩=>aF (hu aa s2 σ H2 _ I2 q2) fun vu s3 ⟨u,H3,I3,pu,q3⟩=>?_);rw[evalPart_none];refine wpAny_pure ?_;have I4:Inv X aa σ H3 {s3 with heap:=s3.heap.push {cls:= .type "slice",data:= .fields #[vl,vu,.none]}}:=I3.kept (t':=s3.toks) fun b ob q=>Heap.get?_push_of_some _ q;obtain⟨T,id,hT,ht,hg⟩:=hr aa {s3 with heap:=s3.heap.push {cls:= .type "slice",data:= .fields #[vl,vu,.none]}} σ H3 x v vl vu l u s3.heap.objs.size Q I4 r1 (Heap.IsSliceOf.new ..) pl pu q3;show wpAny (model X.prog X.w) X.A (subscriptTail e (.Slice lo hi none p2) v (.ref s3.heap.objs.size)) (EP X aa σ Q) X.xe {s3 with heap:=s3.heap.push {cls:= .type "slice",data:= .fields #[vl,vu,.none]}};exact tail_any (ops:=[.ref s3.heap.objs.size,v]) ht hT hg (by with_unfolding_all rfl)
def j6(xs:List V)(lo hi:Option Int):List V:=(xs.drop (HT.bb xs.length 0 lo)).take (HT.bb xs.length xs.length hi-HT.bb xs.length 0 lo)
theorem DL(xs:List V)(lo hi:Option Int):(j6 xs lo hi).length<=xs.length:=by
 unfold j6;rw[List.length_take,List.length_drop];omega
inductive KW(K:FG)(x:V)(lo hi:Option Int)(H:Hp)(Q:VK):Prop
 |mk a xs:x= .ref a->bu K H a xs->(¬(HT.bb xs.length 0 lo=0/\HT.bb xs.length xs.length hi=xs.length))->(∀p,H p=none->Q (.ref p) (upd H p (.tup (j6 xs lo hi))))->KW K x lo hi H Q
theorem TX:wy X (KW X.K):=by
 intro aa s σ H x v vl vu lo hi sl Q I rx hs pl pu h;obtain⟨a,xs,rfl,hx,hw,q⟩:=h;cases rx;obtain⟨aq,r,ht,hz⟩:=I.tuple hx;have bH:aq.toArray.size=xs.length:=by rw[List.size_toArray];exact r.length.symm
 refine⟨"tuple",_,PyProof.Rows.slot_tuple_getitem.lookup,ht.typeIs,?_⟩;refine HT.MG ht hs pl pu (by rw[bH];exact hw) ?_ (by rw[bH];exact hz);rw[bH];refine⟨.ref s.heap.objs.size,_,I.laid (t':=s.toks) (o:= .tup (j6 xs lo hi)) (fun b ob q=>Heap.get?_push_of_some _ q) (Nat.le_refl _) ?_,rfl,q _ (I.aw.fresh (Nat.le_refl _))⟩;exact⟨Nat.le_trans (DL xs lo hi) hz,_,(r.drop (HT.bb xs.length 0 lo)).take (HT.bb xs.length xs.length hi-HT.bb xs.length 0 lo),IsTup.new _ _⟩
inductive J8(K:FG)(x y:V)(H:Hp)(Q:VK):Prop
 |mk a b xs ys:x= .ref a->y= .ref b->bu K H a xs->bu K H b ys->xs≠[]->xs.length+ys.length<=sizeLine->(ys=[]->Q (.ref a) H)->(ys≠[]-> ∀p,H p=none->Q (.ref p) (upd H p (.tup (xs++ys))))->J8 K x y H Q
theorem Vals.y3{xs:List V}{us:List Value}(r:Vals xs us):us=[]↔xs=[]:=by
 cases r with
 |nil=>simp
 |cons _ _=>simp
theorem Se:bJ X (binaryOp .Add) (J8 X.K):=by
 intro aa s σ H x y v u Q I rx ry h;obtain⟨a,b,xs,ys,rfl,rfl,ha,hb,hx,hz,q1,q2⟩:=h;cases rx;cases ry;obtain⟨aq,r1,p1,_⟩:=I.tuple ha;obtain⟨kc,r2,p2,_⟩:=I.tuple hb;refine HT.Rz p1 p2 (fun z=>hx (r1.y3.mp z)) (fun z=>⟨.ref a,H,I,rfl,q1 (r2.y3.mp z)⟩) (fun z=>?_) (by rw[<-r1.length,<-r2.length];exact hz);refine⟨.ref s.heap.objs.size,_,I.laid (t':=s.toks) (o:= .tup (xs++ys)) (fun b ob q=>Heap.get?_push_of_some _ q) (Nat.le_refl _) ?_,rfl,q2 (fun w=>z (r2.y3.mpr w)) _ (I.aw.fresh (Nat.le_refl _))⟩;exact⟨by rw[List.length_append];exact hz,_,r1.append r2,IsTup.new _ _⟩
end
def i5(n:Nat)(i:Int):Option Nat:=if 0<=i then(if i<n then some i.toNat else none) else if -(n:Int)<=i then some (i+n).toNat else none
def kj{α:Type}(xs:List α)(i:Int):Option α:=(i5 xs.length i).bind fun j=>xs[j]?
theorem Hv{n:Nat}{i:Int}{j:Nat}(h:i5 n i=some j):seqIndex? i n=some j/\j<n/\ -(n:Int)<=i/\i<n:=by
 unfold i5 at h
 by_cases h0:0<=i
 ·rw[if_pos h0] at h
  by_cases h1:i<n
  ·rw[if_pos h1] at h;have e:i.toNat=j:=Option.some.inj h;exact⟨by rw[seqIndex_of h0 h1,e],by omega,by omega,h1⟩
  ·rw[if_neg h1] at h;cases h
 ·rw[if_neg h0] at h
  by_cases h1: -(n:Int)<=i
  ·rw[if_pos h1] at h;have e:(i+n).toNat=j:=Option.some.inj h;exact⟨by rw[seqIndex_neg (by omega) h1,e],by omega,h1,by omega⟩
  ·rw[if_neg h1] at h;cases h
theorem yX{α:Type}{xs:List α}{i:Int}{v:α}(h:kj xs i=some v): ∃j,seqIndex? i xs.length=some j/\xs[j]? =some v/\j<xs.length/\ -(xs.length:Int)<=i/\i<xs.length:=by
 unfold kj at h;cases e:i5 xs.length i with
 |none=>rw[e] at h;cases h
 |some j=>
  rw[e] at h;obtain⟨h1,h2,h3,h4⟩:=Hv e;exact⟨j,h1,h,h2,h3,h4⟩
theorem Rv{α:Type}{xs:List α}{j:Nat}{v:α}(h:xs[j]? =some v):kj xs (j:Int)=some v:=by
 have hj:j<xs.length:=(List.getElem?_eq_some_iff.mp h).1;have e:i5 xs.length (j:Int)=some j:=by
  unfold i5;rw[if_pos (by omega),if_pos (by omega)];simp
 unfold kj;rw[e];exact h
def Rt(b:Expr):Prop:= ∀o i,subscripted b false o i=operate [o,i] (getItem o i)
def sV(X:Cx)(r:R2):Prop:=
 ∀(cO slice:Expr)(aa:List (Addr×Obj))(s:Shared)(σ:St)(H:Hp)(x y:V)(v u:Value)(Q:VK),Inv X aa σ H s->RelV x v->RelV y u->r x y H Q->
  subscripted slice false v u=operate [v,u] (getItem v u)->wpAny (model X.prog X.w) X.A (subscriptTail cO slice v u) (EP X aa σ Q) X.xe s
def sW(X:Cx)(id:String)(r:V->List V->Hp->VK->Prop):Prop:=
 ∀(aa:List (Addr×Obj))(s:Shared)(σ:St)(H:Hp)(x:V)(xs:List V)(v:Value)(us:List Value)(Q:VK),Inv X aa σ H s->RelV x v->Vals xs us->r x xs H Q->
  wpAny (model X.prog X.w) X.A (call (.builtin id) (v::us)) (EP X aa σ Q) X.xe s
section
variable{X:Cx}{a b:Expr}{ta tb:TE}{pos:Pos}
theorem cf{r:R2}(hr:sV X r)(ha:PE X a ta)(hb:PE X b tb)(hs:Rt b):PE X (.Subscript a b pos) (jG r ta tb):=by
 intro aa s σ H Q I h;exact Subscript_ (zU ha hb I h fun v u s2 x y H2 I2 rx ry q=>hr a b aa s2 σ H2 x y v u Q I2 rx ry q (hs _ _))
inductive Aj(K:FG)(x y:V)(H:Hp)(Q:VK):Prop
 |mk p xs i v:x= .ref p->y= .int i->aA K H p xs->kj xs i=some v->Q v H->Aj K x y H Q
inductive Ak(K:FG)(x y:V)(H:Hp)(Q:VK):Prop
 |mk p xs i v:x= .ref p->y= .int i->bu K H p xs->kj xs i=some v->Q v H->Ak K x y H Q
inductive KS(x y:V)(H:Hp)(Q:VK):Prop
 |mk z i c:x= .str z->y= .int i->z.length<=sizeLine->kj z.cps.toList i=some c->Q (.str ⟨#[c]⟩) H->KS x y H Q
theorem d5:sV X (Aj X.K):=by
 intro cO slice aa s σ H x y v u Q I rx ry h hs;obtain⟨p,xs,i,z,rfl,rfl,hq,he,q⟩:=h;cases rx;obtain⟨t,rfl⟩:=ry;obtain⟨aq,r,pl,hz⟩:=I.list hq;obtain⟨j,h1,h2,h3,h4,h5⟩:=yX he;obtain⟨w,ew,gI⟩:=r.get h2;have hl:=r.length;have hn:=r6;have fin:EP X aa σ Q w s:=⟨z,H,I,gI,q⟩
 by_cases h0:0<=i
 ·have hj:i.toNat=j:=by
   rw[seqIndex_of h0 h5] at h1;exact Option.some.inj h1
  exact item_listR pl.isList h0 (by omega) (by rw[hj];simpa using ew) fin hs
 ·have hj:(i+(aq.toArray.size:Int)).toNat=j:=by
   rw[seqIndex_neg (by omega) h4] at h1;rw[List.size_toArray,<-hl];exact Option.some.inj h1
  exact subscriptTail_builtinR (x:=w) pl.isList.typeIs slot_list_getitem.lookup
   (wpAny_getItem_list_neg (Q:=fun r s'=>r=w/\EP X aa σ Q r s') pl.isList (by omega) (by rw[List.size_toArray]<;>omega) (by omega) (by rw[hj];simpa using ew) ⟨rfl,fin⟩) hs
theorem gY:sV X (Ak X.K):=by
 intro cO slice aa s σ H x y v u Q I rx ry h hs;obtain⟨p,xs,i,z,rfl,rfl,hq,he,q⟩:=h;cases rx;obtain⟨t,rfl⟩:=ry;obtain⟨aq,r,pl,hz⟩:=I.tuple hq;obtain⟨j,h1,h2,h3,h4,h5⟩:=yX he;obtain⟨w,ew,gI⟩:=r.get h2;have hl:=r.length;have hn:=r6;have fin:EP X aa σ Q w s:=⟨z,H,I,gI,q⟩;exact subscriptTail_builtinR (x:=w) pl.typeIs slot_tuple_getitem.lookup
  (getItem_tuple (j:=j) (Q:=fun r s'=>r=w/\EP X aa σ Q r s') pl (by omega) (by omega) (by rw[List.size_toArray,<-hl];exact h1) (by simpa using ew) ⟨rfl,fin⟩) hs
theorem Td:sV X KS:=by
 intro cO slice aa s σ H x y v u Q I rx ry h hs;obtain⟨z,i,c,rfl,rfl,hz,he,q⟩:=h;obtain⟨t,rfl⟩:=rx;obtain⟨t',rfl⟩:=ry;obtain⟨j,h1,h2,h3,h4,h5⟩:=yX he;have hl:z.cps.toList.length=z.length:=by simp [Str.length]
 rw[hl] at h1 h4 h5;have hn:=r6;exact tail_any (typeIs_str s z t) slot_str_getitem.lookup (getItem_str (c:=c) (by
  have e1:decide (i< -(2^63:Int))=false:=decide_eq_false (by omega);have e2:decide (i≥2^63)=false:=decide_eq_false (by omega);rw[e1,e2,Bool.or_false]) (by rw[h1];simpa using h2) ⟨.str ⟨#[c]⟩,H,I.tok _,⟨_,rfl⟩,q⟩) hs
theorem OU(aq:List Value)(n j:Nat)(u:Value):Obj.mapSeq (·.setIfInBounds j u) {cls:= .type "list",data:= .seq aq.toArray n}={cls:= .type "list",data:= .seq (aq.set j u).toArray n}:=by
 simp [Obj.mapSeq]
theorem Inv.lst{aa:List (Addr×Obj)}{σ:St}{H:Hp}{s:Shared}{p:Addr}{xs:List V}(I:Inv X aa σ H s)(h:H p=some (.lst xs)):
  ∃(aq:List Value)(n:Nat),Vals xs aq/\s.heap.get? p=some {cls:= .type "list",data:= .seq aq.toArray n}/\xs.length<=sizeLine:=by
 obtain⟨z,aq,n,r,e⟩:=I.aw p _ h;exact⟨aq,n,r,e,z⟩
theorem Inv.Tj{aa:List (Addr×Obj)}{σ:St}{H:Hp}{s:Shared}{p:Addr}{xs ys:List V}{aq its':List Value}{n n':Nat}{f:Obj->Obj}(I:Inv X aa σ H s)(h:H p=some (.lst xs))
  (ho:s.heap.get? p=some {cls:= .type "list",data:= .seq aq.toArray n}) (hf:f {cls:= .type "list",data:= .seq aq.toArray n}={cls:= .type "list",data:= .seq its'.toArray n'}) (r:Vals ys its') (hz:ys.length<=sizeLine) (t:Nat):
  Inv X aa σ (upd H p (.lst ys)) {s with heap:=s.heap.update p f,toks:=t}:=by
 have e:(s.heap.update p f).get? p=some {cls:= .type "list",data:= .seq its'.toArray n'}:=by
  rw[Heap.get?_update_self f ho (by rw[hf]<;>rfl),hf]
 refine I.write (x:=p) (e:=p) (by rw[h];trivial) (.inl rfl) (fun b u hb q=>(Heap.get?_update_other _ _ (Ne.symm hb)).trans q) ⟨_,e⟩ ?_;exact⟨hz,its',n',r,e⟩
inductive J9(o i v:V)(H:Hp)(Q:Hp->Prop):Prop
 |mk p xs k j:o= .ref p->i= .int k->H p=some (.lst xs)->i5 xs.length k=some j->Q (upd H p (.lst (xs.set j v)))->J9 o i v H Q
theorem set_list:Kl X J9:=by
 intro aa s σ H o i v ov iv u Q I ro ri rv h;obtain⟨p,xs,k,j,rfl,rfl,hp,hj,q⟩:=h;cases ro;obtain⟨t,rfl⟩:=ri;obtain⟨aq,n,r,ho,hz⟩:=I.lst hp;obtain⟨h1,h2,h3,h4⟩:=Hv hj;have hl:=r.length;have hn:=r6;have I':Inv X aa σ (upd H p (.lst (xs.set j v))) {s with heap:=s.heap.update p (Obj.mapSeq (·.setIfInBounds j u))}:=
  I.Tj hp ho (OU aq n j u) (r.set rv j) (by rw[List.length_set];exact hz) s.toks
 by_cases h0:0<=k
 ·have hk:k.toNat=j:=by
   rw[seqIndex_of h0 h4] at h1;exact Option.some.inj h1
  exact PySem.W.ki_setAt ho h0 (by omega) (by rw[List.size_toArray,<-hl];exact h4) (by rw[hk];exact⟨_,I',q⟩)
 ·have hk:(k+(aq.toArray.size:Int)).toNat=j:=by
   rw[seqIndex_neg (by omega) h3] at h1;rw[List.size_toArray,<-hl];exact Option.some.inj h1
  exact PySem.W.ki_setBack ho (by omega) (by rw[List.size_toArray,<-hl];exact h3) (by omega) (by rw[hk];exact⟨_,I',q⟩)
theorem NV(lo hi:Option Int)(n:Nat):(sliceBounds lo hi none n).1=((HT.bb n 0 lo:Nat):Int)/\(sliceBounds lo hi none n).2.1=((HT.bb n n hi:Nat):Int)/\(sliceBounds lo hi none n).2.2=1:=by
 refine⟨?_,?_,rfl⟩
 ·cases lo with
  |none=>simp [sliceBounds,HT.bb]
  |some i=>
   simp only [sliceBounds,HT.bb,Option.getD_none,show(1:Int)>0 by decide,if_true]
   by_cases h:i<0
   ·simp only [h,if_true]<;>omega
   ·simp only [h,if_false]<;>omega
 ·cases hi with
  |none=>simp [sliceBounds,HT.bb]
  |some i=>
   simp only [sliceBounds,HT.bb,Option.getD_none,show(1:Int)>0 by decide,if_true]
   by_cases h:i<0
   ·simp only [h,if_true]<;>omega
   ·simp only [h,if_false]<;>omega
theorem NA(aq:List Value)(lo hi:Option Int):slicePick aq.toArray lo hi none=((aq.drop (HT.bb aq.length 0 lo)).take (HT.bb aq.length aq.length hi-HT.bb aq.length 0 lo)).toArray:=by
 obtain⟨h1,h2,h3⟩:=NV lo hi aq.toArray.size;unfold slicePick;rw[h1,h2,h3];simp only [sliceRange_one,pick_run,List.size_toArray]<;>rfl
inductive KU(K:FG)(x:V)(lo hi:Option Int)(H:Hp)(Q:VK):Prop
 |mk a xs:x= .ref a->aA K H a xs->(∀p,H p=none->Q (.ref p) (upd H p (.lst (j6 xs lo hi))))->KU K x lo hi H Q
theorem Sz:wy X (KU X.K):=by
 intro aa s σ H x v vl vu lo hi sl Q I rx hs pl pu h;obtain⟨a,xs,rfl,hx,q⟩:=h;cases rx;obtain⟨aq,r,ht,hz⟩:=I.list hx;have bH:=r.length;refine⟨"list",_,slot_list_getitem.lookup,ht.isList.typeIs,?_⟩;refine wpAny_getItem_list_slice ht.isList hs pl pu .none (by simp) ?_ (by rw[List.size_toArray]<;>omega);rw[NA,<-bH];refine⟨.ref s.heap.objs.size,_,I.laid (t':=s.toks) (o:= .lst (j6 xs lo hi)) (fun b ob q=>Heap.get?_push_of_some _ q) (Nat.le_refl _) ?_,rfl,q _ (I.aw.fresh (Nat.le_refl _))⟩;exact⟨Nat.le_trans (DL xs lo hi) hz,_,0,(r.drop (HT.bb xs.length 0 lo)).take (HT.bb xs.length xs.length hi-HT.bb xs.length 0 lo),Heap.get?_push_size _ rfl⟩
def jX:V->Bool
 | .aN=>true
 | .bl _=>true
 | .int _=>true
 | .str _=>true
 |_=>false
def lV:V->V->Bool
 | .aN,.aN=>true
 | .bl a,.bl b=>a==b
 | .bl a,.int b=>(if a then 1 else 0)==b
 | .int a,.bl b=>a==(if b then 1 else 0)
 | .int a,.int b=>a==b
 | .str a,.str b=>a==b
 |_,_=>false
theorem S2{A:Around}{s:Shared}{y x:V}{u v:Value}(ry:RelV y u)(rx:RelV x v)(fy:jX y=true)(fx:jX x=true):SeqAt.EqAt A s u v (lV y x):=by
 cases y with
 |aN=>
  cases ry;cases x with
  |aN=>cases rx;exact SeqAt.EqAt.same _
  |bl b=>cases rx;exact SeqAt.EqAt.none_bool b
  |int b=>obtain⟨t,rfl⟩:=rx;exact SeqAt.EqAt.none_int b t
  |str b=>obtain⟨t,rfl⟩:=rx;exact SeqAt.EqAt.none_str b t
  |_=>exact absurd (show false=true from fx) Bool.false_ne_true
 |bl a=>
  cases ry;cases x with
  |aN=>cases rx;exact SeqAt.EqAt.bool_none a
  |bl b=>cases rx;exact SeqAt.EqAt.bool_bool a b
  |int b=>obtain⟨t,rfl⟩:=rx;exact SeqAt.EqAt.bool_int a b t
  |str b=>obtain⟨t,rfl⟩:=rx;exact SeqAt.EqAt.bool_str a b t
  |_=>exact absurd (show false=true from fx) Bool.false_ne_true
 |int a=>
  obtain⟨t',rfl⟩:=ry;cases x with
  |aN=>cases rx;exact SeqAt.EqAt.int_none a t'
  |bl b=>cases rx;exact SeqAt.EqAt.int_bool a t' b
  |int b=>obtain⟨t,rfl⟩:=rx;exact SeqAt.EqAt.int_int a t' b t
  |str b=>obtain⟨t,rfl⟩:=rx;exact SeqAt.EqAt.int_str a t' b t
  |_=>exact absurd (show false=true from fx) Bool.false_ne_true
 |str a=>
  obtain⟨t',rfl⟩:=ry;cases x with
  |aN=>cases rx;exact SeqAt.EqAt.str_none a t'
  |bl b=>cases rx;exact SeqAt.EqAt.str_bool a t' b
  |int b=>obtain⟨t,rfl⟩:=rx;exact SeqAt.EqAt.str_int a t' b t
  |str b=>obtain⟨t,rfl⟩:=rx;exact SeqAt.EqAt.str_str a t' b t
  |_=>exact absurd (show false=true from fx) Bool.false_ne_true
 |_=>exact absurd (show false=true from fy) Bool.false_ne_true
def fD(x:V)(u:Value):Bool:=match u with
 | .none=>lV .aN x
 | .bool b=>lV (.bl b) x
 | .int i _=>lV (.int i) x
 | .str z _=>lV (.str z) x
 |_=>false
theorem IL{x y:V}{u:Value}(r:RelV y u)(f:jX y=true):fD x u=lV y x:=by
 cases y with
 |aN=>cases r;rfl
 |bl b=>cases r;rfl
 |int i=>obtain⟨t,rfl⟩:=r;rfl
 |str z=>obtain⟨t,rfl⟩:=r;rfl
 |_=>exact absurd (show false=true from f) Bool.false_ne_true
theorem rO{x:V}: ∀{xs:List V}{us:List Value},Vals xs us->xs.all jX=true->us.any (fD x)=xs.any fun y=>lV y x
 |_,_,.nil,_=>rfl
 |y::xs,u::us,.cons r t,f=>by
  rw[List.all_cons,Bool.and_eq_true] at f;rw[List.any_cons,List.any_cons,IL r f.1,rO t f.2]
theorem rH{A:Around}{s:Shared}{x:V}{v:Value}(rx:RelV x v)(fx:jX x=true): ∀{xs:List V}{us:List Value},Vals xs us->xs.all jX=true-> ∀u∈us,SeqAt.EqAt A s u v (fD x u)
 |_,_,.nil,_=>fun u hu=>by cases hu
 |y::xs,u::us,.cons r t,f=>fun u' hu=>by
  rw[List.all_cons,Bool.and_eq_true] at f;rcases List.mem_cons.mp hu with rfl |hu
  ·rw[IL r f.1];exact S2 r rx f.1 fx
  ·exact rH rx fx t f.2 u' hu
def i4(x:V)(xs:List V):Bool:=xs.any fun y=>lV y x
inductive Bd(K:FG)(neg:Bool)(x y:V)(H:Hp)(Q:VK):Prop
 |mk p xs:y= .ref p->(aA K H p xs∨bu K H p xs)->jX x=true->xs.all jX=true->(Q (.bl (if neg then !i4 x xs else i4 x xs)) H)->Bd K neg x y H Q
theorem yr:bJ X (compareOp .In) (Bd X.K false):=by
 intro aa s σ H x y v u Q I rx ry h;obtain⟨p,xs,rfl,hq,fx,fs,q⟩:=h;cases ry;rcases hq with hq |hq
 ·obtain⟨aq,r,pl,hz⟩:=I.list hq;refine SeqAt.in_listAt (fD x) pl.isList (fun w hw=>rH rx fx r fs w (by simpa using hw)) ⟨.bl _,H,I,rfl,?_⟩;rw[show aq.toArray.any (fD x)=aq.any (fD x) by simp,rO r fs];exact q
 ·obtain⟨aq,r,pl,hz⟩:=I.tuple hq;refine SeqAt.in_tupleAt (fD x) pl (fun w hw=>rH rx fx r fs w (by simpa using hw)) ⟨.bl _,H,I,rfl,?_⟩;rw[show aq.toArray.any (fD x)=aq.any (fD x) by simp,rO r fs];exact q
theorem NQ:bJ X (compareOp .NotIn) (Bd X.K true):=by
 intro aa s σ H x y v u Q I rx ry h;obtain⟨p,xs,rfl,hq,fx,fs,q⟩:=h;cases ry;rcases hq with hq |hq
 ·obtain⟨aq,r,pl,hz⟩:=I.list hq;refine SeqAt.notIn_listAt (fD x) pl.isList (fun w hw=>rH rx fx r fs w (by simpa using hw)) ⟨.bl _,H,I,rfl,?_⟩;rw[show aq.toArray.any (fD x)=aq.any (fD x) by simp,rO r fs];exact q
 ·obtain⟨aq,r,pl,hz⟩:=I.tuple hq;refine SeqAt.notIn_tupleAt (fD x) pl (fun w hw=>rH rx fx r fs w (by simpa using hw)) ⟨.bl _,H,I,rfl,?_⟩;rw[show aq.toArray.any (fD x)=aq.any (fD x) by simp,rO r fs];exact q
theorem dH:gh X (.builtin "len") (fun xs H Q=> ∃p ys,xs=[.ref p]/\(aA X.K H p ys∨bu X.K H p ys)/\Q (.int ys.length) H):=by
 intro aa s σ H xs us Q I r h;obtain⟨p,ys,rfl,hq,q⟩:=h;obtain⟨u,rfl,rx⟩:=vals1 r;cases rx;have hn:=r6;rcases hq with hq |hq
 ·obtain⟨aq,r',pl,hz⟩:=I.list hq;have bH:=r'.length;exact Calls.call_len_list pl.isList (by simp only [List.size_toArray]<;>omega) ⟨.int ys.length,H,I.tok _,⟨s.toks+1,by rw[List.size_toArray,bH]⟩,q⟩
 ·obtain⟨aq,r',pl,hz⟩:=I.tuple hq;have bH:=r'.length;exact len_tuple pl (by simp only [List.size_toArray]<;>omega) ⟨.int ys.length,H,I.tok _,⟨s.toks+1,by rw[List.size_toArray,bH]⟩,q⟩
theorem ND:gh X (.type "list") (fun xs H Q=> ∃p ys,xs=[.ref p]/\(aA X.K H p ys∨bu X.K H p ys)/\ ∀l,H l=none->Q (.ref l) (upd H l (.lst ys))):=by
 intro aa s σ H xs us Q I r h;obtain⟨p,ys,rfl,hq,q⟩:=h;obtain⟨u,rfl,rx⟩:=vals1 r;cases rx;have fin: ∀(aq:List Value),Vals ys aq->ys.length<=sizeLine-> ∀(h':Heap)(c':Nat),(∀b o',s.heap.get? b=some o'->h'.get? b=some o')->
   h'.get? s.heap.objs.size=some {cls:= .type "list",dict:=none,data:= .seq aq.toArray c',slots:= #[]}->EP X aa σ Q (.ref s.heap.objs.size) {s with heap:=h'}:=fun aq r' hz h' c' kp e=>
  ⟨.ref s.heap.objs.size,_,I.laid (t':=s.toks) kp (Nat.le_refl _) (show bG X.prog X.w _ h' _ (.lst ys) from⟨hz,aq,c',r',e⟩),rfl,q _ (I.aw.fresh (Nat.le_refl _))⟩
 rcases hq with hq |hq
 ·obtain⟨aq,r',pl,hz⟩:=I.list hq;have bH:=r'.length;obtain⟨o,ho,hc,n,hd⟩:=pl.isList;exact call_list_seq p (.inl rfl) ho hc hd (fun h' c' kp e=>fin aq r' hz h' c' kp e) (by simp only [List.size_toArray]<;>omega)
 ·obtain⟨aq,r',pl,hz⟩:=I.tuple hq;have bH:=r'.length;obtain⟨o,ho,hc,n,hd⟩:=pl;exact call_list_seq p (.inr rfl) ho hc hd (fun h' c' kp e=>fin aq r' hz h' c' kp e) (by simp only [List.size_toArray]<;>omega)
theorem Nn:gh X (.type "tuple") (fun xs H Q=> ∃p ys,xs=[.ref p]/\((aA X.K H p ys/\ ∀l,H l=none->Q (.ref l) (upd H l (.tup ys)))∨(bu X.K H p ys/\Q (.ref p) H))):=by
 intro aa s σ H xs us Q I r h;obtain⟨p,ys,rfl,h⟩:=h;obtain⟨u,rfl,rx⟩:=vals1 r;cases rx;rcases h with⟨hq,q⟩ |⟨hq,q⟩
 ·obtain⟨aq,r',pl,hz⟩:=I.list hq;have bH:=r'.length;refine call_tuple_list pl.isList (fun h' kp=>?_) (by simp only [List.size_toArray]<;>omega);have I1:Inv X aa σ H {s with heap:=h'}:=I.kept (t':=s.toks) kp;have I2:Inv X aa σ (upd H h'.objs.size (.tup ys)) {s with heap:=h'.push {cls:= .type "tuple",data:= .seq aq.toArray}}:=
   I1.laid (t':=s.toks) (fun b o e=>Heap.get?_push_of_some _ e) (Nat.le_refl _) (show bG X.prog X.w _ _ _ (.tup ys) from⟨hz,aq,r',IsTup.new _ _⟩)
  exact⟨.ref h'.objs.size,_,I2,rfl,q _ (I1.aw.fresh (Nat.le_refl _))⟩
 ·obtain⟨aq,r',pl,hz⟩:=I.tuple hq;exact call_tuple_same pl ⟨.ref p,H,I,rfl,q⟩
def Bm(K:FG)(T:String)(x:V)(H:Hp):Prop:=match x with
 | .str _=>T="str"
 | .int _=>T="int"
 | .ref p=>(T="list"/\ ∃xs,aA K H p xs)∨(T="tuple"/\ ∃o,K.lookup p=some o/\o.cls= .type "tuple"/\o.dict=none)∨
   (T="dict"/\((∃af,H p=some (.dK af))∨ ∃af,H p=some (.dT af)))∨(T="set"/\ ∃S n,H p=some (.set S n))
 |_=>False
theorem JI{aa:List (Addr×Obj)}{σ:St}{H:Hp}{s:Shared}{T:String}{x:V}{v:Value}(I:Inv X aa σ H s)(r:RelV x v)(ty:Bm X.K T x H):
  s.TypeIs v T/\ ∀a,v= .ref a-> ∃ob,s.heap.get? a=some ob/\ob.dict=none:=by
 cases x with
 |str z=>
  obtain⟨t,rfl⟩:=r;cases (show T="str" from ty);exact⟨typeIs_str s z t,fun _ e=>nomatch e⟩
 |int i=>
  obtain⟨t,rfl⟩:=r;cases (show T="int" from ty);exact⟨typeIs_int s i t,fun _ e=>nomatch e⟩
 |ref p=>
  cases r;rcases ty with⟨rfl,xs,hq⟩ |⟨rfl,o,hk,hc,hd⟩ |⟨rfl,hk⟩ |⟨rfl,S,n,hk⟩
  ·obtain⟨aq,_,pl,_⟩:=I.list hq;refine⟨pl.isList.typeIs,fun a e=>?_⟩;cases e;obtain⟨o,n,e,c,hd,_⟩:=pl;exact⟨o,e,hd⟩
  ·refine⟨⟨o,I.bN p o hk,hc⟩,fun a e=>?_⟩;cases e;exact⟨o,I.bN _ o hk,hd⟩
  ·have z: ∃o,s.heap.get? p=some o/\o.ExactDict:=by
    rcases hk with⟨af,hk⟩ |⟨af,hk⟩
    ·obtain⟨_,_,_,_,o,_,_,e,ex,_⟩:=I.aw p _ hk;exact⟨o,e,ex⟩
    ·obtain⟨_,_,_,_,o,_,_,e,ex,_⟩:=I.aw p _ hk;exact⟨o,e,ex⟩
   obtain⟨o,e,ex⟩:=z;refine⟨⟨o,e,ex.1⟩,fun a e2=>?_⟩;cases e2;exact⟨o,e,ex.2.1⟩
  ·obtain⟨o,_,_,_,e,ex,_⟩:=I.aw p _ hk;refine⟨⟨o,e,ex.1⟩,fun a e2=>?_⟩;cases e2;exact⟨o,e,ex.2.1⟩
 |_=>exact False.elim ty
def T8(K:FG)(T:String)(r:V->List V->Hp->VK->Prop)(Q:VK):VK:=fun x H1=>Bm K T x H1/\r x [] H1 Q
def V3(K:FG)(T:String)(r:V->List V->Hp->VK->Prop)(to:TE):TE:=fun σ H Q=>to σ H (T8 K T r Q)
def U0(r:V->List V->Hp->VK->Prop)(Q:VK)(x:V):List V->Hp->Prop:=fun xs H2=>r x xs H2 Q
def UZ(K:FG)(T:String)(r:V->List V->Hp->VK->Prop)(t:TA)(σ:St)(Q:VK):VK:=fun x H1=>Bm K T x H1/\t σ H1 (U0 r Q x)
def Yh(K:FG)(T:String)(r:V->List V->Hp->VK->Prop)(to:TE)(t:TA):TE:=fun σ H Q=>to σ H (UZ K T r t σ Q)
variable{o e:Expr}{es:List Expr}{to:TE}{t:TA}{name:Str}{cJ eF:Pos}{T id:String}{r:V->List V->Hp->VK->Prop}
theorem TJ(pa:PlainAttrs T)(slot:Slot T name id)(iq:typeOf (.builtin id)=pure (.type "method_descriptor"))(hm:sW X id r)(ho:PE X o to)
  (mT:attributeBase o name X.env (eval o X.env)=eval o X.env:=by rfl) (mU:(cJ.endLine==eF.line)=true:=by rfl):PE X (.Call (.Attribute o name cJ) [] [] eF) (V3 X.K T r to):=by
 intro aa s σ H Q I h;refine wpAny_Call_method0_late mT mU (aF (ho aa s σ H _ I h) fun v s1 ⟨x,H1,I1,r1,ty,q1⟩=>?_);obtain⟨h1,h2⟩:=JI I1 r1 ty;exact⟨T,id,pa,slot,iq,h1,h2,Calls.callWith_builtin rfl (PySem.evalArgs_none (hm aa s1 σ H1 x [] v [] Q I1 r1 .nil q1))⟩
theorem eQ(pa:PlainAttrs T)(slot:Slot T name id)(iq:typeOf (.builtin id)=pure (.type "method_descriptor"))(hm:sW X id r)(ho:PE X o to)(ha:PA X (e::es) t)
  (mT:attributeBase o name X.env (eval o X.env)=eval o X.env:=by rfl)
  (Vv:((backTo eF (starEach (e::es) X.env)).all (fun x=> !x.1)&&(backToKw eF (keywordEach [] X.env)).all (fun x=>x.1.isSome)
   &&decide ((e::es).length+([]:List Keyword).length+(if([]:List Keyword).isEmpty then 0 else 1)<30))=true:=by rfl)
  (mU:(cJ.endLine==eF.line)=true:=by rfl) (hs:starEach (e::es) X.env=(false,eval e X.env)::starEach es X.env:=by rfl) (S9:(backTo eF (starEach es X.env)).any (·.1)=false:=by rfl):
  PE X (.Call (.Attribute o name cJ) (e::es) [] eF) (Yh X.K T r to t):=by
 intro aa s σ H Q I h;refine wpAny_Call_method_late mT Vv mU rfl (aF (ho aa s σ H _ I h) fun v s1 ⟨x,H1,I1,r1,ty,q1⟩=>?_);obtain⟨h1,h2⟩:=JI I1 r1 ty;refine⟨T,id,pa,slot,iq,h1,h2,?_⟩;have hA:=ha eF aa s1 σ H1 _ I1 q1;rw[hs] at hA ⊢;refine Calls.callWith_builtin (by show(false || (backTo eF (starEach es X.env)).any (·.1))=false;rw[S9]<;>rfl) (Calls.evalArgs_plain ?_);exact aF hA fun us s2 ⟨vs,H2,I2,r2,q2⟩=>hm aa s2 σ H2 x vs v us Q I2 r1 r2 q2
end
def La(X:Cx)(id:String)(r:V->List V->Hp->VK->Prop):Prop:=
 ∀(aa:List (Addr×Obj))(s:Shared)(σ:St)(H:Hp)(x:V)(xs:List V)(v:Value)(us:List Value)(Q:VK),Inv X aa σ H s->RelV x v->Vals xs us->r x xs H Q->
  wpAny (model X.prog X.w) X.A (call (.builtin id) (v::us)) (EP X aa σ Q) X.xe s
theorem Vals.one: ∀{x:V}{us:List Value},Vals [x] us-> ∃u,us=[u]/\RelV x u
 |_,_,.cons r .nil=>⟨_,rfl,r⟩
section
variable{X:Cx}{aa:List (Addr×Obj)}{σ:St}{H:Hp}{s:Shared}{l b:Addr}{xs ys zs:List V}
theorem Inv.KH{aq its':List Value}{n:Nat}{f:Array Value->Array Value}{t':Nat}(I:Inv X aa σ H s)(hH:H l=some (.lst xs))
  (e:s.heap.get? l=some {cls:= .type "list",data:= .seq aq.toArray n}) (hf:f aq.toArray=its'.toArray) (hv:Vals ys its') (hz:ys.length<=sizeLine):
  Inv X aa σ (upd H l (.lst ys)) {s with heap:=s.heap.update l (Obj.mapSeq f),toks:=t'}:=by
 have q:=PySem.IsL.update e f;rw[hf] at q;refine I.write (x:=l) (e:=l) (by rw[hH];exact trivial) (.inl rfl) (fun b' u hb hu=>(Heap.get?_update_other s.heap (Obj.mapSeq f) (Ne.symm hb)).trans hu) ⟨_,q⟩ ?_;exact⟨hz,its',_,hv,q⟩
theorem Inv.VQ{aq:List Value}{t':Nat}(I:Inv X aa σ H s)(hv:Vals ys aq)(hz:ys.length<=sizeLine):
  Inv X aa σ (upd H s.heap.objs.size (.lst ys)) {s with heap:=s.heap.push {cls:= .type "list",data:= .seq aq.toArray},toks:=t'}:=
 I.laid (fun _ _ q=>Heap.get?_push_of_some _ q) (Nat.le_refl _) ⟨hz,aq,0,hv,Heap.get?_push_size _ rfl⟩
theorem Inv.fresh(I:Inv X aa σ H s):H s.heap.objs.size=none:=I.aw.fresh (Nat.le_refl _)
theorem Inv.sJ(I:Inv X aa σ H s)(hH:H l=some (.lst xs)):xs.length<=sizeLine/\ ∃(aq:List Value)(n:Nat),Vals xs aq/\xs.length=aq.length/\s.heap.get? l=some {cls:= .type "list",data:= .seq aq.toArray n}:=by
 obtain⟨z,aq,n,r,e⟩:=I.aw l _ hH;exact⟨z,aq,n,r,r.length,e⟩
theorem QL{n:Nat}(h:n<=sizeLine):Builtin.List.listTooLong n=false:=by
 unfold Builtin.List.listTooLong;exact decide_eq_false (by omega)
end
section
variable{X:Cx}
inductive HN(x:V)(vs:List V)(H:Hp)(Q:VK):Prop
 |mk l xs y:x= .ref l->vs=[y]->H l=some (.lst xs)->xs.length<sizeLine->Q .aN (upd H l (.lst (xs++[y])))->HN x vs H Q
theorem iD:La X "list.append" HN:=by
 intro aa s σ H x vs v us Q I rx rv h;obtain⟨l,xs,y,rfl,rfl,hH,hz,q⟩:=h;cases rx;obtain⟨u,rfl,ru⟩:=rv.one;obtain⟨z,aq,n,r,hl,e⟩:=I.sJ hH;refine call_meets F.slot_list_append ⟨_,e,rfl⟩ F.entry_list_append (F.args_list_append_2 _ _) (PySem.list_append l aq.toArray n u (by rw[List.size_toArray];omega)) ⟨e,?_⟩;refine⟨.aN,_,I.KH (its':=aq++[u]) hH e (by simp) (r.append (.cons ru .nil)) ?_,rfl,q⟩;rw[List.length_append,List.length_singleton];omega
inductive HP(x:V)(vs:List V)(H:Hp)(Q:VK):Prop
 |mk l b xs zs:x= .ref l->vs=[.ref b]->H l=some (.lst xs)->H b=some (.lst zs)->xs.length+zs.length<=sizeLine->Q .aN (upd H l (.lst (xs++zs)))->HP x vs H Q
theorem oU:La X "list.extend" HP:=by
 intro aa s σ H x vs v us Q I rx rv h;obtain⟨l,b,xs,zs,rfl,rfl,hH,hB,hz,q⟩:=h;cases rx;obtain⟨u,rfl,ru⟩:=rv.one;cases ru;obtain⟨z,aq,n,r,hl,e⟩:=I.sJ hH;obtain⟨z2,kc,n2,r2,bP,e2⟩:=I.sJ hB;have hsz:aq.toArray.size+kc.toArray.size<=sizeLine:=by rw[List.size_toArray,List.size_toArray];omega
 have Uz: ¬(!aq.toArray.isEmpty&&Builtin.List.listTooLong (aq.toArray.size+kc.toArray.size))=true:=by
  rw[QL hsz,Bool.and_false];exact Bool.false_ne_true
 refine call_meets F.slot_list_extend ⟨_,e,rfl⟩ F.entry_list_extend (F.args_list_extend_2 _ _)
  (AutoSeq1.list_extend_list_list_0 l aq.toArray n b kc.toArray n2 Uz (by rw[List.size_toArray];omega) (by omega)) ⟨e,e2,?_⟩
 refine⟨.aN,_,I.KH (its':=aq++kc) hH e (by simp) (r.append r2) ?_,rfl,q⟩;rw[List.length_append];omega
inductive KP(x y:V)(H:Hp)(Q:VK):Prop
 |mk l b xs zs:x= .ref l->y= .ref b->H l=some (.lst xs)->H b=some (.lst zs)->xs.length+zs.length<=sizeLine->(∀p,H p=none->Q (.ref p) (upd H p (.lst (xs++zs))))->KP x y H Q
theorem iM:bJ X (binaryOp .Add) KP:=by
 intro aa s σ H x y v u Q I rx ry h;obtain⟨l,b,xs,zs,rfl,rfl,hH,hB,hz,q⟩:=h;cases rx;cases ry;obtain⟨z,aq,n,r,hl,e⟩:=I.sJ hH;obtain⟨z2,kc,n2,r2,bP,e2⟩:=I.sJ hB;refine PySem.P.add_list e e2 ?_ (by rw[List.size_toArray,List.size_toArray];omega);have ea:aq.toArray++kc.toArray=(aq++kc).toArray:=by simp
 rw[ea];exact⟨.ref _,_,I.VQ (t':=s.toks) (r.append r2) (by rw[List.length_append];omega),rfl,q _ I.fresh⟩
end
section
variable{prog:Program}{w:World}{A:Around}{E:Value->Shared->Prop}{s:Shared}
set_option maxRecDepth 100000 in
end
section
variable{X:Cx}
end
theorem Vals.kl: ∀{bs:List Bool}{us:List Value},Vals (bs.map V.bl) us->us=bs.map Value.bool
 |[],us,h=>by
  rw[List.map_nil] at h;cases h;rfl
 |b::bs,us,h=>by
  rw[List.map_cons] at h;cases h with
  |cons r t=>
   cases r;rw[Vals.kl t,List.map_cons]
theorem Vals.KY{a:Addr}{us:List Value}(r:Vals [V.ref a] us):us=[Value.ref a]:=by
 cases r with
 |cons r t=>
  cases t;cases r;rfl
section
variable{prog:Program}{w:World}{A:Around}{E:Value->Shared->Prop}{s:Shared}{l:Addr}{aq:List Value}{ns:List Int}{Q:Value->Shared->Prop}
end
section
variable{X:Cx}
end
section
variable{X:Cx}
end
section
variable{X:Cx}
end
theorem FZ{prog:Program}{w:World}{A:Around}{E:Value->Shared->Prop}{s:Shared}{l:Addr}{items:Array Value}{Q:Value->Shared->Prop}(hl:s.heap.IsList l items)
  (h: ∀s₂:Shared,s₂={s with heap:=s.heap.push {cls:= .type "list_iterator",data:= .fields #[.ref l,.int 0 0]}}->
   (s₂.heap.IsListIter s.heap.objs.size l 0/\s₂.heap.IsList l items)->l≠s.heap.objs.size->Q (.ref s.heap.objs.size) s₂):wpAny (model prog w) A (pyIter (.ref l)) Q E s:=by
 have aW:l<s.heap.objs.size:=by obtain⟨_,e,_⟩:=hl;exact Heap.lt_size e
 exact wpAny_pyIter_list hl (h _ rfl ⟨⟨_,Heap.get?_push_size _ rfl,rfl,rfl⟩,hl.push _⟩ (Nat.ne_of_lt aW))
theorem D9{prog:Program}{w:World}{A:Around}{bs:List Bool}{aq:List Value}(e:aq=bs.map Value.bool):
  TruthOf prog w A (fun i v=>aq.toArray[i]? =some v) (fun i=>bs.getD i false):=fun i v s Q E hv hq=>by
 have w6:aq[i]? =some v:=by simpa using hv
 rw[e,List.getElem?_map] at w6;obtain⟨b,hb,rfl⟩:=Option.map_eq_some_iff.mp w6;have hg:bs.getD i false=b:=by rw[List.getD_eq_getElem?_getD,hb]<;>rfl
 have fY:Q (bs.getD i false) s:=hq;rw[hg] at fY;exact wpAny_truthy_bool fY
theorem any_range: ∀bs:List Bool,(List.range bs.length).any (fun i=>bs.getD i false)=bs.any id
 |[]=>rfl
 |b::bs=>by
  rw[List.length_cons,List.range_succ_eq_map,List.any_cons,List.any_map,List.any_cons,<-any_range bs]
  all_goals rfl
theorem all_range: ∀bs:List Bool,(List.range bs.length).all (fun i=>bs.getD i false)=bs.all id
 |[]=>rfl
 |b::bs=>by
  rw[List.length_cons,List.range_succ_eq_map,List.all_cons,List.all_map,List.all_cons,<-all_range bs]
  all_goals rfl
section
variable{X:Cx}
inductive KO(K:FG)(vs:List V)(H:Hp)(Q:VK):Prop
 |mk(a:Addr)(bs:List Bool):vs=[V.ref a]->aA K H a (bs.map V.bl)->Q (.bl (bs.any id)) H->KO K vs H Q
inductive KN(K:FG)(vs:List V)(H:Hp)(Q:VK):Prop
 |mk(a:Addr)(bs:List Bool):vs=[V.ref a]->aA K H a (bs.map V.bl)->Q (.bl (bs.all id)) H->KN K vs H Q
theorem SX(hc:X.calm=true):gh X (.builtin "any") (KO X.K):=by
 intro aa s σ H vs us Q I r h;obtain⟨a,bs,rfl,hs,q⟩:=h;obtain⟨aq,rv,hl,_⟩:=I.list hs;rw[Vals.KY r];have hb:=rv.kl;refine call_any_walk (FZ hl.isList fun s₂ e2 st bo=>?_);subst e2;refine⟨_,_,_,_,_,_,_,rfl,Walks.list (A:=X.A.in1) (I.ok.hd hc) _ a bo aq.toArray,st,D9 hb,fun h' tk hk=>?_⟩;refine⟨.bl _,H,I.kept fun b o eo=>hk b o (fun ka=>?_) (Heap.get?_push_of_some _ eo),?_,q⟩
 ·rcases List.mem_cons.mp ka with e1 |ka
  ·exact absurd (e1▸Heap.lt_size eo) (Nat.lt_irrefl _)
  ·cases ka
 ·show Value.bool _=Value.bool _;rw[<-any_range,hb,List.size_toArray,List.length_map]
theorem SW(hc:X.calm=true):gh X (.builtin "all") (KN X.K):=by
 intro aa s σ H vs us Q I r h;obtain⟨a,bs,rfl,hs,q⟩:=h;obtain⟨aq,rv,hl,_⟩:=I.list hs;rw[Vals.KY r];have hb:=rv.kl;refine call_all_walk (FZ hl.isList fun s₂ e2 st bo=>?_);subst e2;refine⟨_,_,_,_,_,_,_,rfl,Walks.list (A:=X.A.in1) (I.ok.hd hc) _ a bo aq.toArray,st,D9 hb,fun h' tk hk=>?_⟩;refine⟨.bl _,H,I.kept fun b o eo=>hk b o (fun ka=>?_) (Heap.get?_push_of_some _ eo),?_,q⟩
 ·rcases List.mem_cons.mp ka with e1 |ka
  ·exact absurd (e1▸Heap.lt_size eo) (Nat.lt_irrefl _)
  ·cases ka
 ·show Value.bool _=Value.bool _;rw[<-all_range,hb,List.size_toArray,List.length_map]
end
mutual
inductive Dp(K:FG)(H:Hp):V->PyData->Prop
 |aN:Dp K H .aN .none
 |bl (b:Bool):Dp K H (.bl b) (.bool b)
 |int (i:Int):Dp K H (.int i) (.int i)
 |str (x:Str):Dp K H (.str x) (.str x)
 |lst {a:Addr} {xs:List V} {ds:List PyData}:aA K H a xs->mM K H xs ds->Dp K H (.ref a) (.list ds)
 |tup {a:Addr} {xs:List V} {ds:List PyData}:bu K H a xs->mM K H xs ds->Dp K H (.ref a) (.tuple ds)
inductive mM(K:FG)(H:Hp):List V->List PyData->Prop
 |nil:mM K H [] []
 |cons {v:V} {vs:List V} {d:PyData} {ds:List PyData}:Dp K H v d->mM K H vs ds->mM K H (v::vs) (d::ds)
end
section
variable{X:Cx}{aa:List (Addr×Obj)}{σ:St}{H:Hp}{s:Shared}
mutual
theorem Dp.reads(I:Inv X aa σ H s): ∀(d:PyData)(v:V)(u:Value),Dp X.K H v d->RelV v u-> ∃as,Reads s.heap u d as
 | .none,_,_,h,r=>by
  cases h;cases r;exact⟨_,Reads.none⟩
 | .bool b,_,_,h,r=>by
  cases h;cases r;exact⟨_,Reads.bool b⟩
 | .int i,_,_,h,r=>by
  cases h;obtain⟨t,rfl⟩:=r;exact⟨_,Reads.int i t⟩
 | .str x,_,_,h,r=>by
  cases h;obtain⟨t,rfl⟩:=r;exact⟨_,Reads.str x t⟩
 | .list ds,_,_,h,r=>by
  cases h with
  |lst hs ha=>
   cases r;obtain⟨aq,rv,⟨o,n,ho,hc,_,hd⟩,_⟩:=I.list hs;obtain⟨as,hr⟩:=Dp.readsAll I ds _ aq ha rv;exact⟨_,Reads.list ho hc hd hr⟩
 | .tuple ds,_,_,h,r=>by
  cases h with
  |tup hs ha=>
   cases r;obtain⟨aq,rv,⟨o,ho,hc,n,hd⟩,_⟩:=I.tuple hs;obtain⟨as,hr⟩:=Dp.readsAll I ds _ aq ha rv;exact⟨_,Reads.tuple ho hc hd hr⟩
 | .dict _,_,_,h,_=>by cases h
theorem Dp.readsAll(I:Inv X aa σ H s): ∀(ds:List PyData)(vs:List V)(us:List Value),mM X.K H vs ds->Vals vs us-> ∃as,ReadsAll s.heap us ds as
 |[],_,_,h,r=>by
  cases h;cases r;exact⟨_,ReadsAll.nil⟩
 |d::ds,_,_,h,r=>by
  cases h with
  |cons h1 h2=>
   cases r with
   |cons r1 r2=>
    obtain⟨as,q1⟩:=Dp.reads I d _ _ h1 r1;obtain⟨bs,q2⟩:=Dp.readsAll I ds _ _ h2 r2;exact⟨_,ReadsAll.cons q1 q2⟩
end
end
section
variable{X:Cx}
inductive KR(K:FG)(x y:V)(H:Hp)(Q:VK):Prop
 |mk d e:Dp K H x d->Dp K H y e->SeqAt.shaped d=true->SeqAt.shaped e=true->Q (.bl (PyData.eqv d e)) H->KR K x y H Q
theorem Jj(hu:X.A.units+64<cLine):bJ X (compareOp .Eq) (KR X.K):=by
 intro aa s σ H x y v u Q I rx ry h;obtain⟨d,e,hd,he,sd,se,q⟩:=h;obtain⟨as,r1⟩:=Dp.reads I d x v hd rx;obtain⟨bs,r2⟩:=Dp.reads I e y u he ry;exact SeqAt.compareEq_shaped r1 r2 sd se hu ⟨.bl _,H,I,rfl,q⟩
end
abbrev IG(h:Heap)(c:Addr)(v:Option Value):Prop:=h.IsCell c v
def VZ(ah sc:Scope):Scope:=
 {ah with names:=ah.names.map fun(n,k)=>if(k== .free&&sc.kind== .function&&sc.names.lookup n==some .cell) then(n,.cell) else(n,k)}
def cU(cells:List (Str×Addr)):List (Str×NameKind)->List (Str×Addr)->List (Str×Addr)
 |[],acc=>acc
 |(n,k)::r,acc=>if k== .free then cU cells r ((n,(cells.lookup n).getD 0)::acc) else cU cells r acc
theorem Dl(env:Env)(f:Str×NameKind->List (Str×Addr)->Sem (ForInStep (List (Str×Addr))))
  (hf: ∀n k c,f (n,k) c=if k== .free then(do let a <-cellOf env n;pure (.yield ((n,a)::c))) else pure (.yield c)):
  ∀(names:List (Str×NameKind))(acc:List (Str×Addr)),(∀y∈names,y.2= .free-> ∃c,env.cells.lookup y.1=some c)->forIn names acc f=pure (cU env.cells names acc)
 |[],acc,_=>by rw[List.forIn_nil];rfl
 |(n,k)::r,acc,h=>by
  rw[List.forIn_cons,hf];have ih:=fun acc=>Dl env f hf r acc fun y hy=>h y (List.mem_cons_of_mem _ hy);unfold cU
  by_cases hk:(k==NameKind.free)=true
  ·rw[if_pos hk,if_pos hk];obtain⟨c,hc⟩:=h (n,k) List.mem_cons_self (by simpa using hk);have e:cellOf env n=pure c:=by unfold cellOf;rw[hc]
   rw[e];have e2:(env.cells.lookup n).getD 0=c:=by rw[hc];rfl
   rw[e2];exact ih _
  ·rw[if_neg hk,if_neg hk];exact ih _
theorem Ec{ah:Scope}{env:Env}(h: ∀y∈ah.names,y.2= .free-> ∃c,env.cells.lookup y.1=some c):closureFor ah env=pure (cU env.cells ah.names []):=by
 simp only [closureFor];rw[Dl env _ (fun n k c=>rfl) ah.names [] h];rfl
theorem mem_lookup{α:Type}: ∀{l:List (Str×α)}{n:Str}{c:α},(n,c)∈l-> ∃c',l.lookup n=some c'
 |(k,v)::r,n,c,h=>by
  rw[List.lookup_cons];cases hb:n==k with
  |true=>exact⟨_,rfl⟩
  |false=>
   rcases List.mem_cons.mp h with e |h
   ·cases e;simp at hb
   ·exact mem_lookup h
theorem uF{cells:List (Str×Addr)}: ∀{names:List (Str×NameKind)}{acc:List (Str×Addr)}{n:Str}{c:Addr},(n,c)∈cU cells names acc->(n,c)∈acc∨((n,.free)∈names/\c=(cells.lookup n).getD 0)
 |[],_,_,_,h=> .inl h
 |(m,k)::r,acc,n,c,h=>by
  unfold cU at h
  split at h
  ·rename_i hk
   have hk:k= .free:=by simpa using hk
   rcases uF h with h |⟨h1,h2⟩
   ·rcases List.mem_cons.mp h with e |h
    ·cases e;exact .inr ⟨hk▸List.mem_cons_self,rfl⟩
    ·exact .inl h
   ·exact .inr ⟨List.mem_cons_of_mem _ h1,h2⟩
  ·rcases uF h with h |⟨h1,h2⟩
   ·exact .inl h
   ·exact .inr ⟨List.mem_cons_of_mem _ h1,h2⟩
theorem xM{cells:List (Str×Addr)}: ∀{names:List (Str×NameKind)}{acc:List (Str×Addr)}{p:Str×Addr},p∈acc->p∈cU cells names acc
 |[],_,_,h=>h
 |(m,k)::r,acc,p,h=>by
  unfold cU
  split
  ·exact xM (List.mem_cons_of_mem _ h)
  ·exact xM h
theorem xN{cells:List (Str×Addr)}: ∀{names:List (Str×NameKind)}{acc:List (Str×Addr)}{n:Str},(n,.free)∈names->(n,(cells.lookup n).getD 0)∈cU cells names acc
 |(m,k)::r,acc,n,h=>by
  unfold cU;rcases List.mem_cons.mp h with e |h
  ·cases e;exact xM List.mem_cons_self
  ·split
   ·exact xN h
   ·exact xN h
theorem rg: ∀{names:List (Str×NameKind)}{h:Heap}{acc:List (Str×Addr)}{x:Str}{c:Addr},(x,c)∈cellsFrom h.objs.size names acc->
  (x,c)∈acc∨((x,.cell)∈names/\h.objs.size<=c/\IG (pushCells h names) c none)
 |[],_,_,_,_,h=> .inl h
 |(n,k)::r,h,acc,x,c,hm=>by
  unfold cellsFrom at hm;unfold pushCells
  split at hm
  ·rename_i hk
   rw[if_pos hk];have hk:k= .cell:=by simpa using hk
   rw[<-Heap.size_push h {cls:= .type "cell",data:= .cell none}] at hm;rcases rg hm with hm |⟨h1,h2,h3⟩
   ·rcases List.mem_cons.mp hm with e |hm
    ·cases e;exact .inr ⟨hk▸List.mem_cons_self,Nat.le_refl _,_,pushCells_keeps r _ _ _ (Heap.get?_push_size _ rfl),rfl⟩
    ·exact .inl hm
   ·rw[Heap.size_push] at h2;exact .inr ⟨List.mem_cons_of_mem _ h1,Nat.le_of_succ_le h2,h3⟩
  ·rename_i hk
   rw[if_neg hk];rcases rg hm with hm |⟨h1,h2,h3⟩
   ·exact .inl hm
   ·exact .inr ⟨List.mem_cons_of_mem _ h1,h2,h3⟩
theorem uW: ∀{names:List (Str×NameKind)}{n:Nat}{acc:List (Str×Addr)}{p:Str×Addr},p∈acc->p∈cellsFrom n names acc
 |[],_,_,_,h=>h
 |(m,k)::r,n,acc,p,h=>by
  unfold cellsFrom
  split
  ·exact uW (List.mem_cons_of_mem _ h)
  ·exact uW h
theorem yk: ∀{names:List (Str×NameKind)}{n:Nat}{acc:List (Str×Addr)}{x:Str},(x,.cell)∈names-> ∃c,(x,c)∈cellsFrom n names acc
 |(m,k)::r,n,acc,x,h=>by
  unfold cellsFrom;rcases List.mem_cons.mp h with e |h
  ·cases e;exact⟨n,uW List.mem_cons_self⟩
  ·split
   ·exact yk h
   ·exact yk h
theorem yl: ∀{names:List (Str×NameKind)}{h:Heap}{acc:List (Str×Addr)}{x y:Str}{c:Addr},(∀p∈acc,p.2<h.objs.size)->(∀x y c,(x,c)∈acc->(y,c)∈acc->x=y)->
  (x,c)∈cellsFrom h.objs.size names acc->(y,c)∈cellsFrom h.objs.size names acc->x=y
 |[],_,_,_,_,_,_,hi,h1,h2=>hi _ _ _ h1 h2
 |(n,k)::r,h,acc,x,y,c,hl,hi,h1,h2=>by
  unfold cellsFrom at h1 h2
  split at h1
  ·rename_i hk
   rw[if_pos hk] at h2;rw[<-Heap.size_push h {cls:= .type "cell",data:= .cell none}] at h1 h2;refine yl (h:=h.push _) (fun p hp=>?_) (fun x y c a b=>?_) h1 h2
   ·rw[Heap.size_push];rcases List.mem_cons.mp hp with rfl |hp
    ·exact Nat.lt_succ_self _
    ·exact Nat.lt_succ_of_lt (hl p hp)
   ·rcases List.mem_cons.mp a with e |a<;>rcases List.mem_cons.mp b with e' |b
    ·cases e;cases e';rfl
    ·cases e;exact absurd (hl _ b) (Nat.lt_irrefl _)
    ·cases e';exact absurd (hl _ a) (Nat.lt_irrefl _)
    ·exact hi _ _ _ a b
  ·rename_i hk
   rw[if_neg hk] at h2;exact yl hl hi h1 h2
theorem DT{M:Model}{A:Around}{E:Value->Shared->Prop}{s:Shared}{ah:Scope}{globals:Addr}{yY:List (Str×Addr)}{bK:Str}{m7:Option Addr}{code:Value}{II:Env}{rE:Addr}{Q:Env->Shared->Prop}
  (h:Q (newEnv ah s.heap.objs.size globals (cellsFrom (s.heap.objs.size+1) ah.names yY) bK m7 code (some II) rE)
   {s with heap:=pushCells (s.heap.push {cls:= .type "dict",data:= .dict #[]}) ah.names}):
  wpAny M A (newFunctionEnv ah globals yY [] bK m7 code (some II) rE) Q E s:=by
 simp only [newFunctionEnv,Option.isSome_some,if_true];refine wpAny_bind (wpAny_alloc ?_);refine wpAny_bind (wpAny_layCells _ (fun n k c=>rfl) ah.names yY _ _ ?_);rw[show({s with heap:=s.heap.push {cls:= .type "dict",data:= .dict #[]}}:Shared).heap.objs.size=s.heap.objs.size+1 from Heap.size_push ..];rw[List.forIn_nil];exact wpAny_bind (wpAny_pure (wpAny_pure h))
theorem xT{sc:Scope}: ∀{names:List (Str×NameKind)}{x:Str}{k:NameKind},
  (names.map fun(n,k)=>if(k==NameKind.free&&sc.kind== .function&&sc.names.lookup n==some .cell) then(n,NameKind.cell) else(n,k)).lookup x=some k->
  ∃k',names.lookup x=some k'/\(k=k'∨(k'= .free/\k= .cell))
 |[],_,_,h=>by simp at h
 |(n,k₀)::r,x,k,h=>by
  have ih:= @xT sc r x k;have h':List.lookup x ((if(k₀==NameKind.free&&sc.kind== .function&&sc.names.lookup n==some .cell)=true then(n,NameKind.cell) else(n,k₀))::(r.map _))=some k:=h;cases hx:x==n with
  |true=>
   simp only [List.lookup_cons,hx]
   by_cases hc:(k₀==NameKind.free&&sc.kind== .function&&sc.names.lookup n==some .cell)=true
   ·rw[if_pos hc] at h';simp only [List.lookup_cons,hx] at h';cases h';simp only [Bool.and_eq_true,beq_iff_eq] at hc;exact⟨k₀,rfl,.inr ⟨hc.1.1,rfl⟩⟩
   ·rw[if_neg hc] at h';simp only [List.lookup_cons,hx] at h';cases h';exact⟨_,rfl,.inl rfl⟩
  |false=>
   simp only [List.lookup_cons,hx]
   by_cases hc:(k₀==NameKind.free&&sc.kind== .function&&sc.names.lookup n==some .cell)=true
   ·rw[if_pos hc] at h';simp only [List.lookup_cons,hx] at h';exact ih h'
   ·rw[if_neg hc] at h';simp only [List.lookup_cons,hx] at h';exact ih h'
structure mL(N:List Str)(sc ah:Scope)(own:List (Str×Nat)):Prop where
 kind:ah.kind= .function
 uniq: ∀y∈ah.names,ah.names.lookup y.1=some y.2
 ix: ∀p∈own,N[p.2]? =some p.1
 free: ∀y∈ah.names,y.2= .free->sc.names.lookup y.1=some .cell∨sc.names.lookup y.1=some .free
 own: ∀y∈ah.names,y.2= .local∨y.2= .cell->y.1∈own.map (·.1)∨y.1∉N
def wipe(σ:St):List Nat->St
 |[]=>σ
 |v::vs=>(wipe σ vs).set v none
theorem uK(σ:St): ∀vs:List Nat,(wipe σ vs).length=σ.length
 |[]=>rfl
 |v::vs=>by unfold wipe;rw[List.length_set,uK σ vs]
theorem u9{σ:St}{i:Nat}{x:V}: ∀{vs:List Nat},(wipe σ vs)[i]? =some (some x)->σ[i]? =some (some x)/\i∉vs
 |[],h=>⟨h,by simp⟩
 |v::vs,h=>by
  unfold wipe at h
  by_cases hi:v=i
  ·subst hi
   by_cases hv:v<(wipe σ vs).length
   ·rw[List.getElem?_set_self hv] at h;cases h
   ·rw[List.getElem?_eq_none (by simpa using hv)] at h;cases h
  ·rw[List.getElem?_set_ne hi] at h;obtain⟨h1,h2⟩:=u9 h;exact⟨h1,by simp only [List.mem_cons,not_or];exact⟨fun e=>hi e.symm,h2⟩⟩
abbrev Cx.b9(X:Cx)(s:Shared)(H:Hp)(ah:Scope)(ck:Env)(fp:List Addr):Cx:={X with dF:=s,sP:=H,env:=ck,outer:=X.stack,ex:=fp,fn:=fun x=>ah.names.lookup x==some .cell,pn:=[],xe:=fun _ _=>False}
section
variable{X:Cx}{aa:List (Addr×Obj)}{σ:St}{H:Hp}{s:Shared}
theorem DK{ah:Scope}{own:List (Str×Nat)}{fp:List Addr}(I:Inv X aa σ H s)(ok:mL X.N X.env.scope ah own)(hN:X.N.Nodup)(p6: ∀b∈fp,eC X aa H b/\b<s.heap.objs.size):
  Inv (X.b9 s H ah (compEnvC ah (cellsFrom (s.heap.objs.size+1) ah.names (cU X.env.cells ah.names [])) s.heap.objs.size X.env) fp) [] (wipe σ (own.map (·.2))) H {s with heap:=pushCells (s.heap.push {cls:= .type "dict",data:= .dict #[]}) ah.names}:=by
 have lB: ∀y∈ah.names,y.2= .free-> ∃c,X.env.cells.lookup y.1=some c:=fun y hy e=>by
  rcases ok.free y hy e with k |k
  ·exact I.ok.has _ (.inl k)
  ·exact I.ok.has _ (.inr k)
 generalize hcenv:compEnvC ah (cellsFrom (s.heap.objs.size+1) ah.names (cU X.env.cells ah.names [])) s.heap.objs.size X.env=ck;have kp: ∀b o,s.heap.get? b=some o->(pushCells (s.heap.push {cls:= .type "dict",data:= .dict #[]}) ah.names).get? b=some o:=fun b o e=>pushCells_keeps _ _ _ _ (Heap.get?_push_of_some _ e);have hL:ck.locals=s.heap.objs.size:=by rw[<-hcenv];rfl
 have ee:ck.cells=cellsFrom (s.heap.objs.size+1) ah.names (cU X.env.cells ah.names []):=by rw[<-hcenv];rfl
 have fF:ck.scope=VZ ah X.env.scope:=by rw[<-hcenv];rfl
 rw[<-Heap.size_push s.heap {cls:= .type "dict",data:= .dict #[]}] at ee;have cm: ∀{y c},(y,c)∈cU X.env.cells ah.names []->X.env.cells.lookup y=some c/\c<s.heap.objs.size:=fun {y c} hm=>by
  rcases uF hm with hm |⟨h1,rfl⟩
  ·cases hm
  ·obtain⟨c,hc⟩:=lB _ h1 rfl;rw[hc];obtain⟨w,z⟩:=I.cell _ _ hc;exact⟨rfl,z.lt⟩
 have mem: ∀{y c},ck.cells.lookup y=some c->(X.env.cells.lookup y=some c/\c<s.heap.objs.size)∨(s.heap.objs.size+1<=c/\IG (pushCells (s.heap.push {cls:= .type "dict",data:= .dict #[]}) ah.names) c none):=fun {y c} e=>by
  rw[ee] at e;rcases rg (PySem.mem_of_lookup e) with hm |⟨_,h2,h3⟩
  ·exact .inl (cm hm)
  ·rw[Heap.size_push] at h2;exact .inr ⟨h2,h3⟩
 have look: ∀{y},ah.names.lookup y=some .free-> ∃c,ck.cells.lookup y=some c/\X.env.cells.lookup y=some c:=fun {y} hl=>by
  have hy:(y,NameKind.free)∈ah.names:=PySem.mem_of_lookup hl;obtain⟨c',e'⟩:=mem_lookup (uW (names:=ah.names) (n:=(s.heap.push {cls:= .type "dict",data:= .dict #[]}).objs.size) (xN (cells:=X.env.cells) (acc:=[]) hy));rw[<-ee] at e';refine⟨c',e',?_⟩;rw[ee] at e';rcases rg (PySem.mem_of_lookup e') with hm |⟨h1,_,_⟩
  ·exact(cm hm).1
  ·have:=ok.uniq _ h1;rw[hl] at this;cases this
 have X4:(X.b9 s H ah ck fp).Ok:=by
  refine⟨I.ok.mod,by show ck.scope.kind=_;rw[fF];exact ok.kind,by show ck.globals=_;rw[<-hcenv];exact I.ok.glob,by show ck.builtins=_;rw[<-hcenv];exact I.ok.blt,by show s.heap.objs.size<=ck.locals;rw[hL];exact Nat.le_refl _,
   fun y z c e1 e2=>?_,fun y hy=>?_,fun y c z e=>?_,I.ok.hd,I.ok.frames,.inl rfl,fun b hb=>⟨?_,fun y c e z=>?_⟩,I.bs,Nat.le_trans I.ok.ig I.sz,fun b o e hb=>?_,fun b hb z=>?_,I.stack,I.vF⟩
  ·have e1:ck.cells.lookup y=some c:=e1;have e2:ck.cells.lookup z=some c:=e2;rw[ee] at e1 e2;refine yl (fun p hp=>?_) (fun y z c a b=>I.ok.inj y z c (cm a).1 (cm b).1) (PySem.mem_of_lookup e1) (PySem.mem_of_lookup e2);rw[Heap.size_push];exact Nat.lt_succ_of_lt (cm (y:=p.1) (c:=p.2) hp).2
  ·show ∃c,ck.cells.lookup y=some c;have eJ: ∀k,ck.kindOf y=some k->(k= .cell∨k= .free)-> ∃c,ck.cells.lookup y=some c:=fun k hk p_=>by
    unfold Env.kindOf at hk;rw[fF] at hk;obtain⟨k',e,r⟩:=xT hk;have:k'= .cell∨k'= .free:=by
     rcases r with rfl |⟨rfl,_⟩
     ·exact p_
     ·exact .inr rfl
    rcases this with rfl |rfl
    ·obtain⟨c,hm⟩:=yk (n:=(s.heap.push {cls:= .type "dict",data:= .dict #[]}).objs.size) (acc:=cU X.env.cells ah.names []) (PySem.mem_of_lookup e);obtain⟨c',e'⟩:=mem_lookup hm;exact⟨c',by rw[ee];exact e'⟩
    ·obtain⟨c,h1,_⟩:=look e;exact⟨c,h1⟩
   rcases hy with hy |hy
   ·exact eJ _ hy (.inl rfl)
   ·exact eJ _ hy (.inr rfl)
  ·have z:(ah.names.lookup y==some NameKind.cell)=true:=z;have z:ah.names.lookup y=some .cell:=by simpa using z
   have e:ck.cells.lookup y=some c:=e;rw[ee] at e;rcases rg (PySem.mem_of_lookup e) with hm |⟨_,h2,_⟩
   ·rcases uF hm with hm |⟨h1,_⟩
    ·cases hm
    ·have q:=ok.uniq _ h1;rw[z] at q;cases q
   ·rw[Heap.size_push] at h2;exact Nat.le_of_succ_le h2
  ·show b≠ck.locals;rw[hL];exact Nat.ne_of_lt (p6 b hb).2
  ·have e:ck.cells.lookup y=some c:=e;rcases mem e with⟨h1,_⟩ |⟨h1,_⟩
   ·exact(p6 b hb).1.2.2.2.2.1 y c h1 z
   ·have h2:s.heap.objs.size+1<=b:=by rw[<-z];exact h1
    exact absurd (Nat.lt_of_lt_of_le (p6 b hb).2 (Nat.le_of_succ_le h2)) (Nat.lt_irrefl _)
  ·rcases(p6 b hb).1.2.2.2.1 with z |z
   ·exact I.ok.lO b o e z
   ·exact absurd (Nat.lt_of_lt_of_le (Heap.lt_size e) (Nat.le_trans I.ok.ig z)) (Nat.lt_irrefl _)
  ·rcases List.mem_cons.mp (I.pH b z) with z |z
   ·exact(p6 b hb).1.2.1 z
   ·exact(p6 b hb).1.2.2.1 z
 refine⟨X4,rfl,I.bare,Un.kept kp,⟨fun _=>none,?_,fun i y av e1 e2 e3=>?_⟩,fun y c e=>?_,?_,fun y c e=>?_,fun p hp=>?_,I.aw.kept kp,by rw[uK];exact I.len⟩
 ·show Heap.Ns _ ck.locals _;rw[hL];exact Heap.Ns.keeps (Heap.Ns.new ..) fun b o e=>pushCells_keeps _ _ _ _ e
 ·obtain⟨e2,bo⟩:=u9 e2;have iX:ah.names.lookup y=some .free/\(ck.kindOf y=some .cell∨ck.kindOf y=some .free):=by
   have eJ: ∀k,ck.scope.names.lookup y=some k->k= .local∨k= .cell∨k= .free->ah.names.lookup y=some .free/\(ck.kindOf y=some .cell∨ck.kindOf y=some .free):=fun k hk p_=>by
    have wR:=hk;rw[fF] at hk;obtain⟨k',e,r⟩:=xT hk;have no: ¬(k'= .local∨k'= .cell):=fun hh=>by
     rcases ok.own _ (PySem.mem_of_lookup e) hh with e' |e'
     ·obtain⟨p,hp,Xm⟩:=List.mem_map.mp e';have e3:=ok.ix p hp;have:p.1=y:=Xm;rw[this] at e3;exact bo (List.mem_map.mpr ⟨p,hp,vi hN e3 e1⟩)
     ·exact e' (List.mem_of_getElem? e1)
    rcases r with rfl |⟨rfl,rfl⟩
    ·rcases p_ with rfl |rfl |rfl
     ·exact absurd (.inl rfl) no
     ·exact absurd (.inr rfl) no
     ·exact⟨e,.inr wR⟩
    ·exact⟨e,.inl wR⟩
   have e3:pY ck.scope y:=e3;rcases e3 with e3 |e3 |e3
   ·exact eJ _ e3 (.inl rfl)
   ·exact eJ _ e3 (.inr (.inl rfl))
   ·exact eJ _ e3 (.inr (.inr rfl))
  obtain⟨m,hn,hl⟩:=I.loc;have VJ:pY X.env.scope y:=(ok.free _ (PySem.mem_of_lookup iX.1) rfl).elim (fun k=> .inr (.inl k)) (fun k=> .inr (.inr k));obtain⟨w,r,q⟩:=hl i y av e1 e2 VJ;refine⟨w,r,.inr ⟨iX.2,?_⟩⟩;obtain⟨c,h1,h2⟩:=look iX.1;rcases q with⟨k,_⟩ |⟨_,c',e',z⟩
  ·have k:X.env.scope.names.lookup y=some .local:=k;rcases ok.free _ (PySem.mem_of_lookup iX.1) rfl with k' |k'<;>rw[show X.env.scope.names.lookup y=_ from k'] at k<;>cases k
  ·rw[h2] at e';cases e';exact⟨c,h1,z.keeps kp⟩
 ·have e:ck.cells.lookup y=some c:=e;rcases mem e with⟨h1,_⟩ |⟨_,z⟩
  ·obtain⟨w,z⟩:=I.cell y c h1;exact⟨w,z.keeps kp⟩
  ·exact⟨_,z⟩
 ·show H ck.locals=none;rw[hL];exact I.aw.fresh (Nat.le_refl _)
 ·have e:ck.cells.lookup y=some c:=e;rcases mem e with⟨h1,_⟩ |⟨h1,_⟩
  ·exact I.eB y c h1
  ·exact I.aw.fresh (Nat.le_of_succ_le h1)
 ·exact absurd (show p∈([]:List (Addr×Obj))++[] from hp) (by simp)
theorem IH{E:Value->Shared->Prop}{D:Addr}{xs:List V}{y:V}{v:Value}{Q:Value->Shared->Prop}(I:Inv X aa σ H s)(hD:H D=some (.lst xs))(hz:xs.length<sizeLine)(r:RelV y v)
  (h: ∀s',Inv X aa σ (upd H D (.lst (xs++[y]))) s'->Q .none s'):wpAny (model X.prog X.w) X.A (call (.builtin "list.append") [.ref D,v]) Q E s:=by
 obtain⟨Y8,aq,n,ri,e⟩:=I.aw D _ hD;have hl:=ri.length;refine append_at (hsz:=by rw[List.size_toArray];omega) e fun h' sb fX=>?_;refine h {s with heap:=h'} (I.write (t':=s.toks) (by rw[hD];trivial) (.inl rfl) (fun b u hb q=>(sb.2 b hb).trans q) ⟨_,fX⟩ ⟨by rw[List.length_append];exact hz,aq++[v],n+1,ri.append (.cons r .nil),?_⟩);rw[fX];simp
def ng(X:Cx)(cQ:List Expr)(t:TT):Prop:=
 ∀(aa:List (Addr×Obj))(s:Shared)(σ:St)(H:Hp)(Q:Bool->Hp->Prop),Inv X aa σ H s->t σ H Q->
  wpAny (model X.prog X.w) X.A (forIn cQ true fun c r=>if r=true then do let ok <-isTrue c X.env (eval c X.env);pure (ForInStep.yield ok) else pure (ForInStep.yield r)) (TP X aa σ Q) X.xe s
def K4:TT:=fun _ H Q=>Q true H
theorem jT:ng X [] K4:=fun _ _ _ H _ I h=>wpAny_tests_nil ⟨H,I,h⟩
theorem y9{c:Expr}{t:TT}(h:PT X c t):ng X [c] t:=fun aa s σ H Q I hw=>wpAny_tests_one (h aa s σ H Q I hw)
end
theorem iU{α:Type}{t:Sem α}{Q Q':α->Shared->Prop}{M:Model}{A:Around}{E:Value->Shared->Prop}{s:Shared}(h:wpAny M A t Q (fun _ _=>False) s)(hQ: ∀a s,Q a s->Q' a s):wpAny M A t Q' E s:=wpAny_mono h hQ fun _ _ z=>False.elim z
theorem Dm{prog:Program}{w:World}{A:Around}{R:Result->Shared->Prop}{s:Shared}{bZ pI iter:Expr}{cQ:List Expr}{ah:Scope}{pos:Pos}{it acc:Value}{env:Env}(I:Nat->Shared->Prop)
  (ki: ∀n s,I n s->wpAny (model prog w) A (pyNext it) (fun r s₁=>match r with
   |none=>R (.ok .next) s₁
   |some v=>wpAny (model prog w) A (letOwnedTupleGo pI it v) (fun _ s₁'=>wpAny (model prog w) A (assign pI env v) (fun _ s₂=>
     wpAny (model prog w) A (forIn cQ true fun c r=>if r=true then do let ok <-isTrue c env (eval c env);pure (ForInStep.yield ok) else pure (ForInStep.yield r)) (fun ok s₃=>
      if ok=true then wpAny (model prog w) A (eval bZ env) (fun x s₄=>
       wpAny (model prog w) A (call (.builtin "list.append") [acc,x]) (fun _ s₅=> ∃m,m<n/\I m s₅) (notedBy (model prog w) A env fun e s'=>R (.error e) s') s₄) (notedBy (model prog w) A env fun e s'=>R (.error e) s') s₃
      else ∃m,m<n/\I m s₃) (notedBy (model prog w) A env fun e s'=>R (.error e) s') s₂) (notedBy (model prog w) A env fun e s'=>R (.error e) s') s₁') (notedBy (model prog w) A env fun e s'=>R (.error e) s') s₁) (notedBy (model prog w) A env fun e s'=>R (.error e) s') s)
  (n:Nat) (h:I n s):
  codeAny (model prog w) A (.compLoop (.ListComp bZ [⟨pI,iter,cQ,0⟩] ah pos) 0 it acc env) R s:=by
 refine codeAny_loop rfl I (fun n s hI=>?_) n h;show wpAny _ A ((compTurn (.ListComp bZ [⟨pI,iter,cQ,0⟩] ah pos) 0 it acc env).onRaise (fun x=>do noteFrame x env;theTreesLotGoes x)) _ _ s;refine wpAny_noted ?_;rw[compTurn_list];refine wpAny_bind (wpAny_standAt (wpAny_bind (wpAny_mono (ki n s hI) (fun r s₁ h₁=>?_) fun _ _ h'=>h')));cases r with
 |none=>exact wpAny_pure h₁
 |some v=>
  refine wpAny_bind (wpAny_mono h₁ (fun _ s₁' h₁'=>?_) fun _ _ h'=>h');refine wpAny_bind (wpAny_mono h₁' (fun _ s₂ h₂=>wpAny_bind (wpAny_mono h₂ (fun ok s₃ h₃=>?_) fun _ _ h'=>h')) fun _ _ h'=>h');cases ok with
  |false=>exact wpAny_pure ⟨rfl,h₃⟩
  |true=>
   exact wpAny_bind (wpAny_bind (wpAny_mono h₃ (fun x s₄ h₄=>wpAny_bind (wpAny_mono h₄ (fun _ s₅ h₅=>wpAny_pure (wpAny_pure ⟨rfl,h₅⟩)) fun _ _ h'=>h')) fun _ _ h'=>h'))
section
variable{X:Cx}
def U6(g:TG)(tt:TT)(te:TE)(vs:List Nat)(σ:St)(H:Hp)(Q:VK):It->Hp->Prop:=fun J H1=> ∀D,H1 D=none-> ∃W:Nat->Nat->Hp->Prop,(∃m,W 0 m (upd H1 D (.lst [])))/\ ∀i m H,W i m H->
 (J.stop i H/\Q (.ref D) H)∨(J.go i H/\ ∃Nx:Hp->Prop,(∀H',Nx H'-> ∃m',m'<m/\W (i+1) m' H')/\ ∀x H',J.jH i H x H'->g x (wipe σ vs) H' fun σ2 H2=>wipe σ2 vs=wipe σ vs/\tt σ2 H2 fun b H3=>
  if b=true then te σ2 H3 fun y H4=> ∃acc,H4 D=some (.lst acc)/\acc.length<sizeLine/\Nx (upd H4 D (.lst (acc++[y]))) else Nx H3)
def qw(wi:TI)(g:TG)(tt:TT)(te:TE)(vs:List Nat):TE:=fun σ H Q=>wi σ H (U6 g tt te vs σ H Q)
theorem Hz{aa:List (Addr×Obj)}{s:Shared}{σ:St}{H:Hp}{Q:VK}{bZ tg iter:Expr}{cQ:List Expr}{ah:Scope}{own:List (Str×Nat)}{pos dj:Pos}{wi:TI}{g:TG}{tt:TT}{te:TE}{use:Option (Value->Sem Unit)}{Qf:Value->Shared->Prop}
  (hc:X.calm=true) (hN:X.N.Nodup) (I:Inv X aa σ H s) (hi:PI X tg iter wi) (ok:mL X.N X.env.scope ah own)
  (hg: ∀(s:Shared)(H:Hp)(C:Addr)(cl:List (Str×Addr))(fp:List Addr),PG (X.b9 s H ah (compEnvC ah cl C X.env) fp) tg g) (ht: ∀(s:Shared)(H:Hp)(C:Addr)(cl:List (Str×Addr))(fp:List Addr),ng (X.b9 s H ah (compEnvC ah cl C X.env) fp) cQ tt)
  (he: ∀(s:Shared)(H:Hp)(C:Addr)(cl:List (Str×Addr))(fp:List Addr),PE (X.b9 s H ah (compEnvC ah cl C X.env) fp) bZ te) (hs: ∀x,foldedSetIterable iter X.env x=pure x)
  (h:qw wi g tt te (own.map (·.2)) σ H Q)
  (AB: ∀D C s' m H',Inv X aa σ H' s'->Q (.ref D) H'->s'.heap.Ns C m->eC X aa H' C->compPost (model X.prog X.w) X.A X.xe use Qf (.ref D) C (.ok .next) s'):
  wpAny (model X.prog X.w) X.A (comprehension (.ListComp bZ [⟨tg,iter,cQ,0⟩] ah pos) ah X.env dj (newList []) false (eval iter X.env) use) Qf X.xe s:=by
 have lB: ∀y∈ah.names,y.2= .free-> ∃c,X.env.cells.lookup y.1=some c:=fun y hy e=>by
  rcases ok.free y hy e with k |k
  ·exact I.ok.has _ (.inl k)
  ·exact I.ok.has _ (.inr k)
 refine wpAny_comprehension_free (use:=use) rfl hs (Ec lB) ok.kind (fun y hy e=>by rw[ok.uniq y hy,e])
  (aF (hi aa s σ H _ I h) fun xv s1 hx=>aF hx fun ub s2 h2=>?_)
 obtain⟨it,fp,tn,J,H2,e,I2,T,nM,f2,q⟩:=h2;subst e;refine wpAny_newObj_type (DT ?_) (by show 0<=sizeLine;decide);generalize hD:s2.heap.objs.size=D;have Az:H2 D=none:=I2.aw.fresh (Nat.le_of_eq hD);obtain⟨W,⟨m0,w0⟩,ki⟩:=q D Az;generalize c7:({s2 with heap:=s2.heap.push {cls:= .type "list",data:= .seq ([]:List Value).toArray}}:Shared)=s3;have I3:Inv X aa σ (upd H2 D (.lst [])) s3:=by
  rw[<-c7];refine I2.laid (t':=s2.toks) (fun b o e=>Heap.get?_push_of_some _ e) (Nat.le_of_eq hD) ⟨Nat.zero_le _,[],0,.nil,?_⟩;rw[<-hD];exact Heap.get?_push_size _ rfl
 have h3:s3.heap=s2.heap.push {cls:= .type "list",data:= .seq ([]:List Value).toArray}:=by rw[<-c7]
 have sz: ∀b∈fp,b<s2.heap.objs.size:=fun b hb=>by
  obtain⟨o,e,_⟩:=T.obj _ _ nM b hb;exact Heap.lt_size e
 have f3: ∀b∈fp,eC X aa (upd H2 D (.lst [])) b/\b<s3.heap.objs.size:=fun b hb=>by
  have aW:=sz b hb;refine⟨⟨?_,(f2 b hb).2⟩,by rw[h3,Heap.size_push];exact Nat.lt_succ_of_lt aW⟩;rw[aj (by rw[<-hD];exact Nat.ne_of_lt aW)];exact(f2 b hb).1
 have qu:tn 0 s3.heap:=T.keep _ _ _ nM fun b _ o e=>by rw[h3];exact Heap.get?_push_of_some _ e
 have I4:=DK I3 ok hN f3;have pg:=hg s3 (upd H2 D (.lst [])) s3.heap.objs.size (cellsFrom (s3.heap.objs.size+1) ah.names (cU X.env.cells ah.names [])) fp;have pt:=ht s3 (upd H2 D (.lst [])) s3.heap.objs.size (cellsFrom (s3.heap.objs.size+1) ah.names (cU X.env.cells ah.names [])) fp;have pe:=he s3 (upd H2 D (.lst [])) s3.heap.objs.size (cellsFrom (s3.heap.objs.size+1) ah.names (cU X.env.cells ah.names [])) fp;show codeAny _ _ (.compStart (.ListComp bZ [⟨tg,iter,cQ,0⟩] ah pos) 0 (.ref it) (.ref D) (compEnvC ah (cellsFrom (s3.heap.objs.size+1) ah.names (cU X.env.cells ah.names [])) s3.heap.objs.size X.env)) (compPost (model X.prog X.w) X.A X.xe use Qf (.ref D) s3.heap.objs.size) {s3 with heap:=pushCells (s3.heap.push {cls:= .type "dict",data:= .dict #[]}) ah.names};have ue: ∀b∈fp,(upd H2 D (.lst [])) b=none:=fun b hb=>(f3 b hb).1.1;generalize hce:compEnvC ah (cellsFrom (s3.heap.objs.size+1) ah.names (cU X.env.cells ah.names [])) s3.heap.objs.size X.env=ce at I4 pg pt pe ⊢;have cL:ce.locals=s3.heap.objs.size:=by subst hce;rfl
 generalize hH3:upd H2 D (.lst [])=H3 at I3 I4 pg pt pe w0 ue f3;generalize hs4:({s3 with heap:=pushCells (s3.heap.push {cls:= .type "dict",data:= .dict #[]}) ah.names}:Shared)=s4 at I4 ⊢;have uj:tn 0 s4.heap:=T.keep _ _ _ qu fun b _ o e=>by rw[<-hs4];exact pushCells_keeps _ _ _ _ (Heap.get?_push_of_some _ e)
 have iS: ∀{σ':St}{H':Hp}{s':Shared},Inv (X.b9 s3 H3 ah ce fp) [] σ' H' s'->(∀b∈fp,H' b=none)-> ∀b∈fp,eC (X.b9 s3 H3 ah ce fp) [] H' b:=fun {σ' H' s'} I' hn b hb=>
  ⟨hn b hb,(I'.ok.km b hb).1,I'.ok.j7 b hb,.inl hb,fun x c e=>(I'.ok.km b hb).2 x c e,fun p hp=>absurd (show p∈([]:List (Addr×Obj))++[] from hp) (by simp)⟩
 have sI:codeAny (model X.prog X.w) X.A (.compLoop (.ListComp bZ [⟨tg,iter,cQ,0⟩] ah pos) 0 (.ref it) (.ref D) ce) (compPost (model X.prog X.w) X.A X.xe use Qf (.ref D) s3.heap.objs.size) s4:=by
  refine Dm (fun n s'=> ∃i H',Inv (X.b9 s3 H3 ah ce fp) [] (wipe σ (own.map (·.2))) H' s'/\tn i s'.heap/\(∀b∈fp,H' b=none)/\W i n H') ?_ m0 ⟨0,H3,I4,uj,ue,w0⟩;rintro n s5 ⟨i,H5,I5,kH,n5,w5⟩;rcases ki i n H5 w5 with⟨stop,qq⟩ |⟨go,Nx,AA,step⟩
  ·have td:=T.done (X.b9 s3 H3 ah ce fp) rfl rfl rfl hc i [] s5 _ H5 (fun _ _=>False) I5 (iS I5 n5) kH stop;refine iU td fun r s6 ⟨hr,I6⟩=>?_;subst hr;have I7:Inv X aa σ H5 s6:=I3.vT (ch:=fp) I6.os I6.base I6.aw I6.bare fun b hb=>⟨(f3 b hb).1.2.2.2.1,(f3 b hb).1.2.1,(f3 b hb).1.2.2.2.2.1,(f3 b hb).1.2.2.2.2.2⟩;have nC:H5 s3.heap.objs.size=none:=by
    have z:H5 ce.locals=none:=I6.free;rw[cL] at z;exact z
   obtain⟨m,hn,_⟩:=I6.loc;have hn:s6.heap.Ns ce.locals m:=hn;rw[cL] at hn;exact AB D s3.heap.objs.size s6 m H5 I7 qq hn (I3.lL (Nat.le_refl _) nC)
  ·have ti:=T.item (X.b9 s3 H3 ah ce fp) rfl rfl rfl hc i [] s5 _ H5 (fun _ _=>False) I5 (iS I5 n5) kH go;refine iU ti fun r s6 ⟨u,hr,h6⟩=>?_;subst hr;refine iU h6 fun _ s7 ⟨x,H7,I7,r7,y7,nN,n7⟩=>?_;have Aq:=I7.pinned (iS I7 n7) (T.obj _ _ nN);refine iU (pg _ s7 _ H7 x u _ Aq r7 (step x H7 y7)) fun _ s8 ⟨σ8,H8,I8,t_,q8⟩=>?_;refine iU (pt _ s8 σ8 H8 _ I8 q8) fun b s9 ⟨H9,I9,q9⟩=>?_;have fin: ∀{s':Shared}{H':Hp},Inv (X.b9 s3 H3 ah ce fp) ([]++pF fp s7.heap) σ8 H' s'->Nx H'-> ∃m,m<n/\ ∃i H',Inv (X.b9 s3 H3 ah ce fp) [] (wipe σ (own.map (·.2))) H' s'/\tn i s'.heap/\(∀b∈fp,H' b=none)/\W i m H':=fun {s' H'} I' nx=>by
    obtain⟨m',hm,w'⟩:=AA H' nx;have sL: ∀b∈fp,∀o,s7.heap.get? b=some o->s'.heap.get? b=some o/\H' b=none:=fun b hb o e=>
     let z:=I'.pin (b,o) (List.mem_append_right _ (List.mem_append_right _ (uM hb e)))
     ⟨z.1,z.2.1⟩
    have hl:(wipe σ (own.map (·.2))).length=σ8.length:=by rw[<-t_,uK]
    refine⟨m',hm,i+1,H',(I'.rN (aa:=[])).weak hl (fun j v e=>?_),T.keep _ _ _ nN fun b hb o e=>(sL b hb o e).1,fun b hb=>?_,w'⟩
    ·rw[<-t_] at e;exact(u9 e).1
    ·obtain⟨o,e,_⟩:=T.obj _ _ nN b hb;exact(sL b hb o e).2
   cases b with
   |false=>
    simp only [Bool.false_eq_true,if_false] at q9 ⊢;exact fin I9 q9
   |true=>
    simp only [if_true] at q9 ⊢;refine iU (pe _ s9 σ8 H9 _ I9 q9) fun z X9 ⟨yv,V_,Ao,Bb,acc,zZ,Ae,nx⟩=>?_;exact IH (X:=X.b9 s3 H3 ah ce fp) Ao zZ Ae Bb fun X_ Ap=>fin Ap nx
 exact codeAny_compStart_list sI (T.self X.A 0 _ _ _ uj sI)
theorem lG{bZ tg iter:Expr}{cQ:List Expr}{ah:Scope}{own:List (Str×Nat)}{pos:Pos}{wi:TI}{g:TG}{tt:TT}{te:TE}(hc:X.calm=true)(hN:X.N.Nodup)(hi:PI X tg iter wi)(ok:mL X.N X.env.scope ah own)
  (hg: ∀(s:Shared)(H:Hp)(C:Addr)(cl:List (Str×Addr))(fp:List Addr),PG (X.b9 s H ah (compEnvC ah cl C X.env) fp) tg g) (ht: ∀(s:Shared)(H:Hp)(C:Addr)(cl:List (Str×Addr))(fp:List Addr),ng (X.b9 s H ah (compEnvC ah cl C X.env) fp) cQ tt)
  (he: ∀(s:Shared)(H:Hp)(C:Addr)(cl:List (Str×Addr))(fp:List Addr),PE (X.b9 s H ah (compEnvC ah cl C X.env) fp) bZ te) (hs: ∀x,foldedSetIterable iter X.env x=pure x:=by intro _;rfl):
  PE X (.ListComp bZ [⟨tg,iter,cQ,0⟩] ah pos) (qw wi g tt te (own.map (·.2))):=by
 intro aa s σ H Q I h;rw[eval_ListComp];refine Hz hc hN I hi ok hg ht he hs h fun D C s' m H' I' q hn f=>⟨m,hn,fun tp sb=>?_⟩;obtain⟨f0,f1,f2,f3,f4,f5⟩:=f;exact⟨.ref D,H',I'.turned (t':=s'.toks) (fun b o hb e=>(sb.2 b hb).trans e) f0 f1 f3 f4 f5,rfl,q⟩
theorem yR{i:Nat}{y:Str}{py:Pos}{bZ tg iter:Expr}{cQ:List Expr}{ah:Scope}{own:List (Str×Nat)}{pos K0:Pos}{wi:TI}{g:TG}{tt:TT}{te:TE}(hc:X.calm=true)(hN:X.N.Nodup)(hy:X.N[i]? =some y)(LP:X.env.scope.names.lookup y=some .local)
  (Xu:swapsWith (.ListComp bZ [⟨tg,iter,cQ,0⟩] ah pos) (some (.Name y py)) K0.line X.env=pure true) (hi:PI X tg iter wi) (ok:mL X.N X.env.scope ah own)
  (hg: ∀(s:Shared)(H:Hp)(C:Addr)(cl:List (Str×Addr))(fp:List Addr),PG (X.b9 s H ah (compEnvC ah cl C X.env) fp) tg g) (ht: ∀(s:Shared)(H:Hp)(C:Addr)(cl:List (Str×Addr))(fp:List Addr),ng (X.b9 s H ah (compEnvC ah cl C X.env) fp) cQ tt)
  (he: ∀(s:Shared)(H:Hp)(C:Addr)(cl:List (Str×Addr))(fp:List Addr),PE (X.b9 s H ah (compEnvC ah cl C X.env) fp) bZ te) (hs: ∀x,foldedSetIterable iter X.env x=pure x:=by intro _;rfl):
  PS X (.Assign [.Name y py] (.ListComp bZ [⟨tg,iter,cQ,0⟩] ah pos) K0) (sM (qw wi g tt te (own.map (·.2))) (de i)):=by
 intro aa s σ H D I h;rw[exec_Assign_Name_used _ _ _ _ Xu];refine wpAny_bind (wpAny_standAt (wpAny_bind ?_));show wpAny _ X.A (do let _ <-comprehension (.ListComp bZ [⟨tg,iter,cQ,0⟩] ah pos) ah X.env (firstIterPos [⟨tg,iter,cQ,0⟩] pos) (newList []) false (eval iter X.env) (some (assign (.Name y py) X.env))) _ _ s;have h:qw wi g tt te (own.map (·.2)) σ H (fun x H1=>de i x σ H1 D.nx):=h;refine wpAny_bind (aF (Hz (Qf:=fun _ s'=>SP X aa D .next s') hc hN I hi ok hg ht he hs h fun L C s' m H' I' q hn f=>?_) fun _ s' hq=>wpAny_pure (wpAny_pure hq));show wpAny _ _ (assign (.Name y py) X.env (.ref L)) _ _ _;refine wpAny_assign_Name (yA (v:=V.ref L) I' hN hy (.inl LP) rfl (fun s2 I2 ⟨a,sb,ha⟩=>?_) (.inr LP));obtain⟨f0,f1,f2,f3,f4,f5⟩:=f;have WU:C≠a:=by
  rcases ha with z |z
  ·rw[z];exact f1
  ·exact fun e=>f4 y a z e.symm
 refine⟨m,hn.sameBut sb WU,fun h3 Yc=>?_⟩;exact⟨_,H',I2.turned (t':=s2.toks) (fun b o hb e=>(Yc.2 b hb).trans e) f0 f1 f3 f4 f5,q⟩
theorem zd{bZ:Expr}{gs:List Comprehension}{ah:Scope}{pos py:Pos}{y:Str}{l:Nat}{env:Env}(hk:env.scope.kind= .function)(hy:env.scope.names.lookup y=some .local)(hl:(py.line==pos.line)=true)
  (ha:(ah.names.any fun(n,k)=>n==y&&(k== .local || k== .cell))=false):swapsWith (.ListComp bZ gs ah pos) (some (.Name y py)) l env=pure true:=by
 have ky:env.kindOf y=some .local:=hy;have hb:env.blockKind= .function:=by unfold Env.blockKind;rw[hk];rfl
 unfold swapsWith;simp only [hb,ky,ha,Expr.pos,hl];rfl
end
theorem F6{lo:Int}{n:Nat}{g:TG}{tt:TT}{te:TE}{vs:List Nat}{σ:St}{H1:Hp}{D:Addr}{Qd:Hp->Prop}(Pv:Nat->Hp->Prop)(h0:Pv 0 (upd H1 D (.lst [])))
  (hs: ∀i H,i<n->Pv i H->g (.int (lo+i)) (wipe σ vs) H fun σ2 H2=>wipe σ2 vs=wipe σ vs/\tt σ2 H2 fun b H3=>
   if b=true then te σ2 H3 fun y H4=> ∃acc,H4 D=some (.lst acc)/\acc.length<sizeLine/\Pv (i+1) (upd H4 D (.lst (acc++[y]))) else Pv (i+1) H3) (hd: ∀H,Pv n H->Qd H):
  ∃W:Nat->Nat->Hp->Prop,(∃m,W 0 m (upd H1 D (.lst [])))/\ ∀i m H,W i m H->
   ((pW lo n).stop i H/\Qd H)∨((pW lo n).go i H/\ ∃Nx:Hp->Prop,(∀H',Nx H'-> ∃m',m'<m/\W (i+1) m' H')/\ ∀x H',(pW lo n).jH i H x H'->g x (wipe σ vs) H' fun σ2 H2=>wipe σ2 vs=wipe σ vs/\tt σ2 H2 fun b H3=>
    if b=true then te σ2 H3 fun y H4=> ∃acc,H4 D=some (.lst acc)/\acc.length<sizeLine/\Nx (upd H4 D (.lst (acc++[y]))) else Nx H3):=by
 refine⟨fun i m H=>m=n-i/\i<=n/\Pv i H,⟨n,by simp,Nat.zero_le _,h0⟩,?_⟩;rintro i m H ⟨rfl,hi,p⟩
 by_cases aW:i<n
 ·refine .inr ⟨aW,Pv (i+1),fun H' p'=>⟨n-(i+1),by omega,rfl,aW,p'⟩,fun x H' y=>?_⟩;obtain⟨e,y⟩:=y;subst e y;exact hs i _ aW p
 ·have e:i=n:=by omega
  subst e;exact .inl ⟨Nat.le_refl _,hd H p⟩
theorem mD{K:FG}{a:Addr}{xs:List V}{g:TG}{tt:TT}{te:TE}{vs:List Nat}{σ:St}{H1:Hp}{D:Addr}{Qd:Hp->Prop}(Pv:Nat->Hp->Prop)(h0:Pv 0 (upd H1 D (.lst [])))(hl: ∀i H,i<=xs.length->Pv i H->aA K H a xs)
  (hs: ∀i x H,xs[i]? =some x->Pv i H->g x (wipe σ vs) H fun σ2 H2=>wipe σ2 vs=wipe σ vs/\tt σ2 H2 fun b H3=>
   if b=true then te σ2 H3 fun y H4=> ∃acc,H4 D=some (.lst acc)/\acc.length<sizeLine/\Pv (i+1) (upd H4 D (.lst (acc++[y]))) else Pv (i+1) H3) (hd: ∀H,Pv xs.length H->Qd H):
  ∃W:Nat->Nat->Hp->Prop,(∃m,W 0 m (upd H1 D (.lst [])))/\ ∀i m H,W i m H->
   ((lQ K a).stop i H/\Qd H)∨((lQ K a).go i H/\ ∃Nx:Hp->Prop,(∀H',Nx H'-> ∃m',m'<m/\W (i+1) m' H')/\ ∀x H',(lQ K a).jH i H x H'->g x (wipe σ vs) H' fun σ2 H2=>wipe σ2 vs=wipe σ vs/\tt σ2 H2 fun b H3=>
    if b=true then te σ2 H3 fun y H4=> ∃acc,H4 D=some (.lst acc)/\acc.length<sizeLine/\Nx (upd H4 D (.lst (acc++[y]))) else Nx H3):=by
 refine⟨fun i m H=>m=xs.length-i/\i<=xs.length/\Pv i H,⟨xs.length,by simp,Nat.zero_le _,h0⟩,?_⟩;rintro i m H ⟨rfl,hi,p⟩;have q:=hl i H hi p
 by_cases aW:i<xs.length
 ·refine .inr ⟨⟨xs,xs[i],q,by simp [aW]⟩,Pv (i+1),fun H' p'=>⟨xs.length-(i+1),by omega,rfl,aW,p'⟩,fun x H' y=>?_⟩;obtain⟨e,y⟩:=y;subst e;exact hs i x _ (y xs q) p
 ·have e:i=xs.length:=by omega
  subst e;exact .inl ⟨⟨xs,q,Nat.le_refl _⟩,hd H p⟩
theorem zi{K:FG}{a:Addr}{xs:List V}{g:TG}{tt:TT}{te:TE}{vs:List Nat}{σ:St}{H1:Hp}{D:Addr}{Qd:Hp->Prop}(Pv:Nat->Hp->Prop)(h0:Pv 0 (upd H1 D (.lst [])))(hl: ∀i H,i<=xs.length->Pv i H->bu K H a xs)
  (hs: ∀i x H,xs[i]? =some x->Pv i H->g x (wipe σ vs) H fun σ2 H2=>wipe σ2 vs=wipe σ vs/\tt σ2 H2 fun b H3=>
   if b=true then te σ2 H3 fun y H4=> ∃acc,H4 D=some (.lst acc)/\acc.length<sizeLine/\Pv (i+1) (upd H4 D (.lst (acc++[y]))) else Pv (i+1) H3) (hd: ∀H,Pv xs.length H->Qd H):
  ∃W:Nat->Nat->Hp->Prop,(∃m,W 0 m (upd H1 D (.lst [])))/\ ∀i m H,W i m H->
   ((sS K a).stop i H/\Qd H)∨((sS K a).go i H/\ ∃Nx:Hp->Prop,(∀H',Nx H'-> ∃m',m'<m/\W (i+1) m' H')/\ ∀x H',(sS K a).jH i H x H'->g x (wipe σ vs) H' fun σ2 H2=>wipe σ2 vs=wipe σ vs/\tt σ2 H2 fun b H3=>
    if b=true then te σ2 H3 fun y H4=> ∃acc,H4 D=some (.lst acc)/\acc.length<sizeLine/\Nx (upd H4 D (.lst (acc++[y]))) else Nx H3):=by
 refine⟨fun i m H=>m=xs.length-i/\i<=xs.length/\Pv i H,⟨xs.length,by simp,Nat.zero_le _,h0⟩,?_⟩;rintro i m H ⟨rfl,hi,p⟩;have q:=hl i H hi p
 by_cases aW:i<xs.length
 ·refine .inr ⟨⟨xs,xs[i],q,by simp [aW]⟩,Pv (i+1),fun H' p'=>⟨xs.length-(i+1),by omega,rfl,aW,p'⟩,fun x H' y=>?_⟩;obtain⟨e,y⟩:=y;subst e;exact hs i x _ (y xs q) p
 ·have e:i=xs.length:=by omega
  subst e;exact .inl ⟨⟨xs,q,Nat.le_refl _⟩,hd H p⟩
def Ko(N:List Str)(sc ah:Scope)(own:List (Str×Nat)):Bool:=
 (match ah.kind with | .function=>true |_=>false)&&(ah.names.all fun y=>decide (ah.names.lookup y.1=some y.2))&&(own.all fun p=>decide (N[p.2]? =some p.1))&&
  (ah.names.all fun y=>match y.2 with
   | .free=>(match sc.names.lookup y.1 with |some .cell=>true |some .free=>true |_=>false)
   | .local=>decide (y.1∈own.map (·.1)) || decide (y.1∉N)
   | .cell=>decide (y.1∈own.map (·.1)) || decide (y.1∉N)
   |_=>true)
theorem gS{N:List Str}{sc ah:Scope}{own:List (Str×Nat)}(h:Ko N sc ah own=true):mL N sc ah own:=by
 unfold Ko at h;simp only [Bool.and_eq_true,List.all_eq_true,decide_eq_true_eq] at h;obtain⟨⟨⟨h1,h2⟩,h3⟩,h4⟩:=h;refine⟨?_,h2,h3,fun y hy e=>?_,fun y hy e=>?_⟩
 ·split at h1
  ·assumption
  ·cases h1
 ·have q:=h4 y hy;simp only [e] at q
  split at q<;>first |exact .inl (by assumption) |exact .inr (by assumption) |cases q
 ·have q:=h4 y hy;rcases e with e |e<;>(simp only [e,Bool.or_eq_true,decide_eq_true_eq] at q;exact q)
section
variable{prog:Program}{w:World}{A:Around}{R:Result->Shared->Prop}{s:Shared}{bZ t0 i0 t1 i1:Expr}{Yw Yx:List Expr}{ah:Scope}{pos:Pos}{it acc:Value}{env:Env}
end
section
variable{X:Cx}
end
section
variable{κ:Type}[DecidableEq κ]
def bM(af:List (κ×V))(k:κ):Option V:=(af.find? fun kv=>decide (kv.1=k)).map (·.2)
def putK(af:List (κ×V))(k:κ)(v:V):List (κ×V):=
 if(af.any fun kv=>decide (kv.1=k))=true then af.map (fun kv=>if kv.1=k then(kv.1,v) else kv) else af++[(k,v)]
theorem yW{p:κ×V}{r:List (κ×V)}{k:κ}(e:p.1=k):bM (p::r) k=some p.2:=by simp [bM,List.find?_cons,e]
theorem yV{p:κ×V}{r:List (κ×V)}{k:κ}(e: ¬p.1=k):bM (p::r) k=bM r k:=by simp [bM,List.find?_cons,e]
theorem G8(k:κ): ∀af:List (κ×V),(af.any fun kv=>decide (kv.1=k))=(bM af k).isSome
 |[]=>rfl
 |p::r=>by
  rw[List.any_cons]
  by_cases e:p.1=k
  ·simp only [yW e,decide_eq_true e,Bool.true_or,Option.isSome_some]
  ·rw[yV e,decide_eq_false e,Bool.false_or];exact G8 k r
theorem uH(af:List (κ×V))(k:κ)(v:V):(putK af k v).length<=af.length+1:=by
 unfold putK
 split
 ·rw[List.length_map];omega
 ·rw[List.length_append,List.length_cons,List.length_nil];omega
theorem di.oP{o:Option V}{u:Option Value}(r:di o u):o.isSome=u.isSome:=by
 cases o with
 |none=>cases u with
  |none=>rfl
  |some _=>exact(show False from r).elim
 |some _=>cases u with
  |none=>exact(show False from r).elim
  |some _=>rfl
theorem di.getD{o:Option V}{u:Option Value}{d:V}{d':Value}(r:di o u)(rd:RelV d d'):RelV (o.getD d) (u.getD d'):=by
 cases o with
 |none=>cases u with
  |none=>exact rd
  |some _=>exact(show False from r).elim
 |some _=>cases u with
  |none=>exact(show False from r).elim
  |some _=>exact r
theorem KV.val{af:List (κ×V)}{vs:List (κ×Value)}(r:KV af vs)(k:κ):di (bM af k) (valueAt vs k):=by
 unfold KV at r
 induction r with
 |nil=>exact True.intro
 | @cons p q ps qs h t ih=>
  obtain⟨h1,h2⟩:=h
  by_cases e:p.1=k
  ·have e':q.1=k:=h1.symm.trans e;have b:valueAt (q::qs) k=some q.2:=by simp [valueAt,List.find?_cons,e']
   rw[yW e,b];exact h2
  ·have e': ¬q.1=k:=fun z=>e (h1.trans z);have b:valueAt (q::qs) k=valueAt qs k:=by simp [valueAt,List.find?_cons,e']
   rw[yV e,b];exact ih
theorem KV.any{af:List (κ×V)}{vs:List (κ×Value)}(r:KV af vs)(k:κ):(af.any fun kv=>decide (kv.1=k))=vs.any fun kv=>decide (kv.1=k):=by
 unfold KV at r
 induction r with
 |nil=>rfl
 |cons h t ih=>rw[List.any_cons,List.any_cons,ih,h.1]
theorem KV.Al{af:List (κ×V)}{vs:List (κ×Value)}(r:KV af vs)(k:κ){y:V}{u:Value}(ry:RelV y u):
  KV (af.map fun kv=>if kv.1=k then(kv.1,y) else kv) (vs.map fun kv=>if kv.1=k then(kv.1,u) else kv):=by
 unfold KV at r ⊢
 induction r with
 |nil=>exact .nil
 | @cons p q ps qs h t ih=>
  rw[List.map_cons,List.map_cons];refine .cons ?_ ih;obtain⟨h1,h2⟩:=h
  by_cases e:p.1=k
  ·rw[if_pos e,if_pos (h1.symm.trans e)];exact⟨h1,ry⟩
  ·rw[if_neg e,if_neg (fun z=>e (h1.trans z))];exact⟨h1,h2⟩
theorem KV.put{af:List (κ×V)}{vs:List (κ×Value)}(r:KV af vs)(k:κ){y:V}{u:Value}(ry:RelV y u):KV (putK af k y) (stored vs k u):=by
 unfold putK stored;rw[r.any k]
 by_cases e:(vs.any fun kv=>decide (kv.1=k))=true
 ·rw[if_pos e,if_pos e];exact r.Al k ry
 ·rw[if_neg e,if_neg e];exact Paired.snoc r ⟨rfl,ry⟩
theorem KV.length{af:List (κ×V)}{vs:List (κ×Value)}(r:KV af vs):af.length=vs.length:=Paired.length r
end
theorem lD{P:Program}{w:World}{k:Key}{u:Value}(r:RelV (kV k) u):(dJ P w).is k u=true:=by
 cases k with
 |inl i=>obtain⟨t,e⟩:=(show ∃t,u=Value.int i t from r);subst e;exact Of P w i t
 |inr x=>obtain⟨t,e⟩:=(show ∃t,u=Value.str x t from r);subst e;exact Og P w x t
theorem EV{P:Program}{w:World}: ∀{ks:List Key}{us:List Value},Vals (ks.map kV) us->ItemsAre (dJ P w) ks us
 |[],_,r=>by rw[List.map_nil] at r;cases r;exact .nil
 |k::ks,_,r=>by
  rw[List.map_cons] at r;cases r with
  |cons h t=>exact .cons (lD h) (EV t)
abbrev KT(H:Hp):List (List Key×V)->List (List Key×Addr×Value)->Prop:=Paired fun p q=>p.1=q.1/\H q.2.1=some (.tup (p.1.map kV))/\RelV p.2 q.2.2
theorem KT.val{H:Hp}{af:List (List Key×V)}{xs:List (List Key×Addr×Value)}(r:KT H af xs)(k:List Key):di (bM af k) ((atKey xs k).map (·.2)):=by
 induction r with
 |nil=>exact True.intro
 | @cons p q ps qs h t ih=>
  obtain⟨h1,_,h2⟩:=h
  by_cases e:p.1=k
  ·have e':q.1=k:=h1.symm.trans e;have b:atKey (q::qs) k=some q.2:=by simp [atKey,List.find?_cons,e']
   rw[yW e,b];exact h2
  ·have e': ¬q.1=k:=fun z=>e (h1.trans z);have b:atKey (q::qs) k=atKey qs k:=by simp [atKey,List.find?_cons,e']
   rw[yV e,b];exact ih
theorem KT.Al{H:Hp}{af:List (List Key×V)}{xs:List (List Key×Addr×Value)}(r:KT H af xs)(k:List Key){y:V}{u:Value}(ry:RelV y u):
  KT H (af.map fun kv=>if kv.1=k then(kv.1,y) else kv) (xs.map (putAt k u)):=by
 induction r with
 |nil=>exact .nil
 | @cons p q ps qs h t ih=>
  rw[List.map_cons,List.map_cons];refine .cons ?_ ih;obtain⟨h1,h2,h3⟩:=h;unfold putAt
  by_cases e:p.1=k
  ·rw[if_pos e,if_pos (h1.symm.trans e)];exact⟨h1,h2,ry⟩
  ·rw[if_neg e,if_neg (fun z=>e (h1.trans z))];exact⟨h1,h2,h3⟩
theorem KT.put{H:Hp}{af:List (List Key×V)}{xs:List (List Key×Addr×Value)}(r:KT H af xs)(k:List Key){b:Addr}{y:V}{u:Value}(hb:H b=some (.tup (k.map kV)))(ry:RelV y u):
  KT H (putK af k y) (storedH xs k b u):=by
 have e:(af.any fun kv=>decide (kv.1=k))=(atKey xs k).isSome:=by
  rw[G8,(r.val k).oP,Option.isSome_map]
 unfold putK storedH;rw[e]
 by_cases q:(atKey xs k).isSome=true
 ·rw[if_pos q,if_pos q];exact r.Al k ry
 ·rw[if_neg q,if_neg q];exact Paired.snoc r ⟨rfl,hb,ry⟩
theorem KT.keeps{H H':Hp}{af:List (List Key×V)}{xs:List (List Key×Addr×Value)}(r:KT H af xs)(ht: ∀b ys,H b=some (.tup ys)->H' b=some (.tup ys)):KT H' af xs:=
 Paired.Ah r fun _ _ z=>⟨z.1,ht _ _ z.2.1,z.2.2⟩
section
variable{P:Program}{w:World}{H:Hp}{h:Heap}{a:Addr}
theorem J_{u:HO}(ok:bY P w H h)(e:Rd H a u):bG P w H h a u:=e.ok ok
theorem mQ{af:List (Key×V)}(ok:bY P w H h)(e:Rd H a (.dK af)):af.length<=sizeLine/\(a==sysModules)=false/\ ∃vs,KV af vs/\h.DictOf (dJ P w) a vs:=
 show bG P w H h a (.dK af) from J_ ok e
theorem JN{af:List (Key×V)}(ok:bY P w H h)(e:H a=some (.dK af)):af.length<=sizeLine/\(a==sysModules)=false/\ ∃vs,KV af vs/\h.DictOf (dJ P w) a vs:=mQ ok (.inl e)
theorem pC{ks:List Key}(ok:bY P w H h)(e:H a=some (.tup (ks.map kV))):(tupleKind (dJ P w)).is h ks a:=by
 obtain⟨_,aq,r,o,h1,h2,n,h3⟩:=(show bG P w H h a (.tup (ks.map kV)) from ok a _ e);exact⟨o,aq.toArray,n,h1,h2,h3,by simpa using EV r⟩
theorem mR{af:List (List Key×V)}(ok:bY P w H h)(e:Rd H a (.dT af)):af.length<=sizeLine/\(a==sysModules)=false/\
  ∃xs,KT H af xs/\h.DictOfH (tupleKind (dJ P w)) a xs:=by
 obtain⟨z,y,xs,r,o,es,ep,h1,h2,h3,h4,h5⟩:=(show bG P w H h a (.dT af) from J_ ok e);refine⟨z,y,xs,r,o,es,ep,h1,h2,h3,h4,fun x hx=>?_,h5⟩;have all: ∀{l:List (List Key×V)}{m:List (List Key×Addr×Value)},KT H l m-> ∀x∈m,(tupleKind (dJ P w)).is h x.1 x.2.1:=by
  intro l m q
  induction q with
  |nil=>intro x hx;exact nomatch hx
  | @cons p q ps qs hq t ih=>
   intro x hx;rcases List.mem_cons.mp hx with e |hx
   ·subst e;exact pC ok (by rw[<-hq.1];exact hq.2.1)
   ·exact ih x hx
 exact all r x hx
theorem JO{af:List (List Key×V)}(ok:bY P w H h)(e:H a=some (.dT af)):af.length<=sizeLine/\(a==sysModules)=false/\
  ∃xs,KT H af xs/\h.DictOfH (tupleKind (dJ P w)) a xs:=mR ok (.inl e)
end
def dM(H:Hp)(a:Addr)(y:V)(r:Option V):Prop:=
 (∃af k,Rd H a (.dK af)/\y=kV k/\r=bM af k)∨ ∃af k b,Rd H a (.dT af)/\y= .ref b/\H b=some (.tup (k.map kV))/\r=bM af k
def jZ(H:Hp)(a:Addr)(y v:V)(H':Hp):Prop:=
 (∃af k,H a=some (.dK af)/\y=kV k/\af.length<sizeLine/\H'=upd H a (.dK (putK af k v)))∨
 ∃af k b,H a=some (.dT af)/\y= .ref b/\H b=some (.tup (k.map kV))/\af.length<sizeLine/\H'=upd H a (.dT (putK af k v))
theorem dM.k{H:Hp}{a:Addr}{af:List (Key×V)}{k:Key}(e:H a=some (.dK af)):dM H a (kV k) (bM af k):= .inl ⟨af,k,.inl e,rfl,rfl⟩
theorem dM.t{H:Hp}{a b:Addr}{af:List (List Key×V)}{k:List Key}(e:H a=some (.dT af))(eb:H b=some (.tup (k.map kV))):dM H a (.ref b) (bM af k):= .inr ⟨af,k,b,.inl e,rfl,eb,rfl⟩
theorem jZ.k{H:Hp}{a:Addr}{af:List (Key×V)}{k:Key}{v:V}(e:H a=some (.dK af))(hl:af.length<sizeLine):jZ H a (kV k) v (upd H a (.dK (putK af k v))):= .inl ⟨af,k,e,rfl,hl,rfl⟩
theorem jZ.t{H:Hp}{a b:Addr}{af:List (List Key×V)}{k:List Key}{v:V}(e:H a=some (.dT af))(eb:H b=some (.tup (k.map kV)))(hl:af.length<sizeLine):
  jZ H a (.ref b) v (upd H a (.dT (putK af k v))):= .inr ⟨af,k,b,e,rfl,eb,hl,rfl⟩
section
variable{X:Cx}{aa:List (Addr×Obj)}{σ:St}{H:Hp}{s:Shared}{a:Addr}{y v:V}{u r:Value}{o:Option V}{A:Around}{E:Value->Shared->Prop}
theorem Inv.big(I:Inv X aa σ H s):sysModules<s.heap.objs.size:=by
 have h:mainGlobals<s.heap.objs.size:=(I.mod.glob.keeps I.bk).lt;exact Nat.lt_trans (by decide) h
theorem Pd{Q:Value->Shared->Prop}(hu:A.units+1<cLine)(I:Inv X aa σ H s)(g:dM H a y (some v))(ry:RelV y u)(h: ∀w' s',Inv X aa σ H s'->RelV v w'->Q w' s'):
  wpAny (model X.prog X.w) A (getItem (.ref a) u) Q E s:=by
 rcases g with⟨af,k,e,ey,l⟩ |⟨af,k,b,e,ey,eb,l⟩
 ·subst ey;obtain⟨z,hd,vs,rel,dd⟩:=mQ I.aw e;obtain⟨w',hw,gI⟩:=di.some_of (v:=v) (o:=valueAt vs k) (by rw[l];exact rel.val k);exact wpAny_getItem_of (lD ry) dd.mapOf hw (h w' _ (I.tok _) gI)
 ·subst ey;cases (show u=Value.ref b from ry);obtain⟨z,hd,xs,rel,dd⟩:=mR I.aw e;obtain⟨w',hw,gI⟩:=di.some_of (v:=v) (o:=(atKey xs k).map (·.2)) (by rw[l];exact rel.val k);obtain⟨p,hp,wZ⟩:=Option.map_eq_some_iff.mp hw;refine wpAny_getItem_heap (tupleKind_room_in1 hu) (pC I.aw eb) dd hp ?_;rw[wZ];exact h w' _ (I.tok _) gI
theorem Vn{Q:Value->Shared->Prop}(hu:A.units+1<cLine)(I:Inv X aa σ H s)(g:dM H a y o)(ry:RelV y u)(h: ∀s',Inv X aa σ H s'->Q (.bool o.isSome) s'):
  wpAny (model X.prog X.w) A (compareOp .In u (.ref a)) Q E s:=by
 rcases g with⟨af,k,e,ey,l⟩ |⟨af,k,b,e,ey,eb,l⟩
 ·subst ey;obtain⟨z,hd,vs,rel,dd⟩:=mQ I.aw e;refine wpAny_in_of (lD ry) hd dd.mapOf ?_;rw[<-(rel.val k).oP,<-l];exact h _ (I.tok _)
 ·subst ey;cases (show u=Value.ref b from ry);obtain⟨z,hd,xs,rel,dd⟩:=mR I.aw e;refine wpAny_in_heap (tupleKind_room_in1 hu) (pC I.aw eb) hd dd ?_;have q:=(rel.val k).oP;rw[Option.isSome_map] at q;rw[<-q,<-l];exact h _ (I.tok _)
theorem RB{Q:Value->Shared->Prop}(hu:A.units+1<cLine)(I:Inv X aa σ H s)(g:dM H a y o)(ry:RelV y u)(h: ∀s',Inv X aa σ H s'->Q (.bool (!o.isSome)) s'):
  wpAny (model X.prog X.w) A (compareOp .NotIn u (.ref a)) Q E s:=by
 rcases g with⟨af,k,e,ey,l⟩ |⟨af,k,b,e,ey,eb,l⟩
 ·subst ey;obtain⟨z,hd,vs,rel,dd⟩:=mQ I.aw e;refine wpAny_notIn_of (lD ry) hd dd.mapOf ?_;rw[<-(rel.val k).oP,<-l];exact h _ (I.tok _)
 ·subst ey;cases (show u=Value.ref b from ry);obtain⟨z,hd,xs,rel,dd⟩:=mR I.aw e;refine wpAny_notIn_heap (tupleKind_room_in1 hu) (pC I.aw eb) hd dd ?_;have q:=(rel.val k).oP;rw[Option.isSome_map] at q;rw[<-q,<-l];exact h _ (I.tok _)
theorem Hh{h':Heap}{t':Nat}{ob:HO}(I:Inv X aa σ H s)(mu:sX (H a))(hs:Heap.SameBut a s.heap h')(he: ∃q,h'.get? a=some q)(new:bG X.prog X.w (upd H a ob) h' a ob):
  Inv X aa σ (upd H a ob) {s with heap:=h',toks:=t'}:=
 I.write (x:=a) (e:=a) mu (.inl rfl) (fun b q hb z=>(hs.2 b hb).trans z) he new
theorem S0{P:Program}{w:World}{H':Hp}{h':Heap}{af:List (Key×V)}{vs:List (Key×Value)}(z:af.length<=sizeLine)(hd:(a==sysModules)=false)(rel:KV af vs)(dd:h'.DictOf (dJ P w) a vs):
  bG P w H' h' a (.dK af):=⟨z,hd,vs,rel,dd⟩
theorem Pe{H':Hp}{Q:Unit->Shared->Prop}(hu:A.units+1<cLine)(I:Inv X aa σ H s)(g:jZ H a y v H')(ry:RelV y u)(rv:RelV v r)(h: ∀s',Inv X aa σ H' s'->Q () s'):
  wpAny (model X.prog X.w) A (setItem (.ref a) u r) Q E s:=by
 rcases g with⟨af,k,e,ey,l,eH⟩ |⟨af,k,b,e,ey,eb,l,eH⟩
 ·subst ey eH;obtain⟨z,hd,vs,rel,dd⟩:=JN I.aw e;have hz:vs.length<=sizeLine:=by rw[<-rel.length];exact z
  have hl:(putK af k v).length<=sizeLine:=by have:=uH af k v;omega
  refine wpAny_setItem_pairs (hsz:=hz) (lD ry) dd fun h' sZ hs=>h _ ?_;have he: ∃q,h'.get? a=some q:=let⟨q,_,_,hq,_⟩:=sZ;⟨q,hq⟩;exact Hh I (by rw[e];exact True.intro) hs he (S0 hl hd (rel.put k rv) sZ)
 ·subst ey eH;cases (show u=Value.ref b from ry);obtain⟨z,hd,xs,rel,dd⟩:=JO I.aw e;have hz:xs.length<=sizeLine:=by rw[<-Paired.length rel];exact z
  have hl:(putK af k v).length<=sizeLine:=by have:=uH af k v;omega
  refine wpAny_setItem_heap (hsz:=hz) (tupleKind_room_in1 hu) (pC I.aw eb) dd fun h' sZ hs=>h _ ?_;obtain⟨q,es,ep,hq,h2,h3,h4,_,h5⟩:=sZ;refine Hh I (by rw[e];exact True.intro) hs ⟨q,hq⟩ ⟨hl,hd,_,(rel.put k eb rv).keeps fun c ys ec=>?_,q,es,ep,hq,h2,h3,h4,h5⟩;rw[aj (UK ec e (fun z=>nomatch z))];exact ec
end
section
variable{X:Cx}{aa:List (Addr×Obj)}{σ:St}{H:Hp}{s:Shared}{a:Addr}{af:List (Key×V)}{k:Key}{u:Value}{A:Around}{E:Value->Shared->Prop}
end
def zT(i:Expr):Prop:= ∀ov iv,subscripted i false ov iv=operate [ov,iv] (getItem ov iv)
theorem Ir{prog:Program}{w:World}{A:Around}{E:Value->Shared->Prop}{s:Shared}{env:Env}{cO slice:Expr}{pos:Pos}{T id:String}{Q:Value->Shared->Prop}
  (hl:typeLookup (.type T) "__getitem__"=pure (some (.builtin id))) (hs:zT slice)
  (h:wpAny (model prog w) A (eval cO env) (fun o s₁=>wpAny (model prog w) A (eval slice env) (fun i s₂=>s₂.TypeIs o T/\wpAny (model prog w) A (getItem o i) Q E s₂) E s₁) E s):
  wpAny (model prog w) A (eval (.Subscript cO slice pos) env) Q E s:=by
 refine Subscript_ (wpAny_mono h (fun o s₁ h₁=>wpAny_mono h₁ (fun i s₂ h₂=>?_) fun _ _ x=>x) fun _ _ x=>x);obtain⟨hT,h₂⟩:=h₂;unfold subscriptTail;refine wpAny_bind ?_;rw[getitemInPython_of_ne hT.not_modules];refine wpAny_bind (wpAny_specialOf hT hl ?_);have fin:wpAny (model prog w) A (subscripted slice false o i) (fun r s₃=>wpAny (model prog w) A (letTemporaryGo cO o r>>=fun _=>pure r) Q E s₃) E s₂:=by
  rw[hs o i];exact wpAny_operating (wpAny_mono h₂ (fun r s₃ h₃=>wpAny_bind (wpAny_letTemporaryGo (wpAny_pure h₃))) fun _ _ x=>x)
 first
  |exact wpAny_pure (wpAny_bind fin)
  |exact wpAny_bind (wpAny_pure (wpAny_bind fin))
  |exact wpAny_bind fin
theorem N4{X:Cx}{aa:List (Addr×Obj)}{σ:St}{H:Hp}{s:Shared}{a:Addr}{y:V}{o:Option V}(I:Inv X aa σ H s)(g:dM H a y o):s.TypeIs (.ref a) "dict":=by
 rcases g with⟨af,k,e,_,_⟩ |⟨af,k,b,e,_,_,_⟩
 ·obtain⟨_,_,vs,_,dd⟩:=mQ I.aw e;exact dd.typeIs
 ·obtain⟨_,_,xs,_,dd⟩:=mR I.aw e;exact dd.typeIs
inductive Iv(Q:VK)(x y:V)(H2:Hp):Prop
 |mk a v:x= .ref a->dM H2 a y (some v)->Q v H2->Iv Q x y H2
def SH(ty:TE)(σ:St)(Q:VK):VK:=fun x H1=>ty σ H1 (Iv Q x)
def U2(td ty:TE):TE:=fun σ H Q=>td σ H (SH ty σ Q)
inductive JD(Q:VK)(y x:V)(H2:Hp):Prop
 |mk a o:x= .ref a->dM H2 a y o->Q (.bl o.isSome) H2->JD Q y x H2
def Ua(td:TE)(σ:St)(Q:VK):VK:=fun y H1=>td σ H1 (JD Q y)
def V4(ty td:TE):TE:=fun σ H Q=>ty σ H (Ua td σ Q)
inductive FI(Q:VK)(y x:V)(H2:Hp):Prop
 |mk a o:x= .ref a->dM H2 a y o->Q (.bl (!o.isSome)) H2->FI Q y x H2
def P0(td:TE)(σ:St)(Q:VK):VK:=fun y H1=>td σ H1 (FI Q y)
def SI(ty td:TE):TE:=fun σ H Q=>ty σ H (P0 td σ Q)
inductive HS(D:Ends)(σ:St)(v x y:V)(H3:Hp):Prop
 |mk a H4:x= .ref a->jZ H3 a y v H4->D.nx σ H4->HS D σ v x y H3
def Sq(ty:TE)(D:Ends)(σ:St)(v:V):VK:=fun x H2=>ty σ H2 (HS D σ v x)
def So(td ty:TE)(D:Ends)(σ:St):VK:=fun v H1=>td σ H1 (Sq ty D σ v)
def UU(td ty tv:TE):TS:=fun D σ H=>tv σ H (So td ty D σ)
section
variable{X:Cx}{o i e cO:Expr}{pos dj pV:Pos}{td ty tv:TE}
theorem HJ(hu:X.A.units+1<cLine)(ho:PE X o td)(hi:PE X i ty)(hs:zT i):PE X (.Subscript o i pos) (U2 td ty):=by
 intro aa s σ H Q I h;refine Ir PySem.F.slot_dict_getitem.lookup hs (aF (ho aa s σ H _ I h) fun u s1 ⟨x,H1,I1,rx,q1⟩=>aF (hi aa s1 σ H1 _ I1 q1) fun iv s2 ⟨y,H2,I2,ry,a,v,ex,g,q2⟩=>?_);subst ex;obtain rfl:u=Value.ref a:=rx;exact⟨N4 I2 g,Pd hu I2 g ry fun w' s3 I3 gI=>⟨v,H2,I3,gI,q2⟩⟩
theorem TF(hu:X.A.units+1<cLine)(hi:PE X i ty)(ho:PE X o td):PC X .In i o (V4 ty td):=by
 intro aa s σ H Q I h;refine aF (hi aa s σ H _ I h) fun iv s1 ⟨y,H1,I1,ry,q1⟩=>aF (ho aa s1 σ H1 _ I1 q1) fun u s2 ⟨x,H2,I2,rx,a,ov,ex,g,q2⟩=>?_;subst ex;obtain rfl:u=Value.ref a:=rx;exact Vn hu I2 g ry fun s3 I3=>⟨.bl ov.isSome,H2,I3,rfl,q2⟩
theorem E6(hu:X.A.units+1<cLine)(hi:PE X i ty)(ho:PE X o td):PC X .NotIn i o (SI ty td):=by
 intro aa s σ H Q I h;refine aF (hi aa s σ H _ I h) fun iv s1 ⟨y,H1,I1,ry,q1⟩=>aF (ho aa s1 σ H1 _ I1 q1) fun u s2 ⟨x,H2,I2,rx,a,ov,ex,g,q2⟩=>?_;subst ex;obtain rfl:u=Value.ref a:=rx;exact RB hu I2 g ry fun s3 I3=>⟨.bl (!ov.isSome),H2,I3,rfl,q2⟩
theorem y8(hu:X.A.units+1<cLine)(ho:PE X o td)(hi:PE X i ty)(hv:PE X cO tv)(hs:swapsWith cO (some (.Subscript o i dj)) pos.line X.env=pure false):
  PS X (.Assign [.Subscript o i dj] cO pos) (UU td ty tv):=by
 intro aa s σ H D I h;refine wpAny_Assign_Subscript (aF (hv aa s σ H _ I h) fun r s1 ⟨v,H1,I1,rv,q1⟩=>aF (ho aa s1 σ H1 _ I1 q1) fun u s2 ⟨x,H2,I2,rx,q2⟩=>aF (hi aa s2 σ H2 _ I2 q2) fun iv s3 ⟨y,H3,I3,ry,a,H4,ex,g,q3⟩=>?_) hs;subst ex;obtain rfl:u=Value.ref a:=rx;exact Pe hu I3 g ry rv fun s4 I4=>⟨σ,H4,I4,q3⟩
end
theorem Qk{P:Program}{w:World}{H:Hp}(h:Heap)(hb:sysModules<h.objs.size):bG P w H (h.push {cls:= .type "dict",data:= .dict #[]}) h.objs.size (.dK []):=
 ⟨Nat.zero_le _,beq_eq_false_iff_ne.mpr (Ne.symm (Nat.ne_of_lt hb)),[],.nil,Heap.DictOf.new h⟩
theorem Ql{P:Program}{w:World}{H:Hp}(h:Heap)(hb:sysModules<h.objs.size):bG P w H (h.push {cls:= .type "dict",data:= .dict #[]}) h.objs.size (.dT []):=
 ⟨Nat.zero_le _,beq_eq_false_iff_ne.mpr (Ne.symm (Nat.ne_of_lt hb)),[],.nil,_, #[],0,Heap.get?_push_size _ rfl,⟨rfl,rfl,rfl⟩,rfl,rfl,List.nodup_nil⟩
def JE:TE:=fun _ H Q=> ∀p,H p=none->Q (.ref p) (upd H p (.dK []))
def Ub:TE:=fun _ H Q=> ∀p,H p=none->Q (.ref p) (upd H p (.dT []))
section
variable{X:Cx}{pos:Pos}
theorem yQ:PE X (.Dict [] [] pos) JE:=fun aa s σ H Q I h=>
 wpAny_Dict_empty ⟨.ref s.heap.objs.size,_,I.laid (a:=s.heap.objs.size) (o:= .dK []) (t':=s.toks) (fun _ _ q=>Heap.get?_push_of_some _ q) (Nat.le_refl _) (Qk s.heap I.big),rfl,h _ (I.aw.fresh (Nat.le_refl _))⟩
theorem Gd:PE X (.Dict [] [] pos) Ub:=fun aa s σ H Q I h=>
 wpAny_Dict_empty ⟨.ref s.heap.objs.size,_,I.laid (a:=s.heap.objs.size) (o:= .dT []) (t':=s.toks) (fun _ _ q=>Heap.get?_push_of_some _ q) (Nat.le_refl _) (Ql s.heap I.big),rfl,h _ (I.aw.fresh (Nat.le_refl _))⟩
end
def jV(af more:List (Key×V)):List (Key×V):=more.foldl (fun acc kv=>putK acc kv.1 kv.2) af
theorem KV.merge: ∀{more:List (Key×V)}{rs:List (Key×Value)}{af:List (Key×V)}{vs:List (Key×Value)},KV more rs->KV af vs->KV (jV af more) (merged vs rs):=by
 intro more rs af vs r;unfold KV at r
 induction r generalizing af vs with
 |nil=>intro q;exact q
 | @cons p q ps qs h t ih=>
  intro r0;have e:KV (putK af p.1 p.2) (stored vs q.1 q.2):=by
   have:=r0.put p.1 h.2;rw[<-h.1];exact this
  exact ih e
theorem C1: ∀(more af:List (Key×V)),(jV af more).length<=af.length+more.length
 |[],af=>by show af.length<=af.length+0;omega
 |p::r,af=>by
  have h1:=C1 r (putK af p.1 p.2);have h2:=uH af p.1 p.2;show(jV (putK af p.1 p.2) r).length<=_;rw[List.length_cons];omega
structure M1(X:Cx)(o:Expr)(m:Str)(cJ:Pos)(e:Expr)(eF:Pos):Prop where
 base:attributeBase o m X.env (eval o X.env)=eval o X.env
 gB:((backTo eF (starEach [e] X.env)).all (fun x=> !x.1)&&(backToKw eF (keywordEach [] X.env)).all (fun x=>x.1.isSome)
  &&decide (([e]:List Expr).length+([]:List Keyword).length+(if([]:List Keyword).isEmpty then 0 else 1)<30))=true
 line:(cJ.endLine==eF.line)=true
 trees:backTo eF (starEach [e] X.env)=[(false,eval e X.env)]
def K_(H:Hp)(a:Addr):Prop:=(∃af,Rd H a (.dK af))∨ ∃af,Rd H a (.dT af)
theorem Tc{X:Cx}{aa:List (Addr×Obj)}{σ:St}{H:Hp}{s:Shared}{a:Addr}(I:Inv X aa σ H s)(d:K_ H a):
  s.TypeIs (.ref a) "dict"/\(∀b,Value.ref a= .ref b-> ∃ob,s.heap.get? b=some ob/\ob.dict=none)/\(a==sysModules)=false:=by
 rcases d with⟨af,e⟩ |⟨af,e⟩
 ·obtain⟨_,hd,vs,_,dd⟩:=mQ I.aw e;refine⟨dd.typeIs,fun b q=>?_,hd⟩;cases q;obtain⟨ob,_,_,h1,h2,_⟩:=dd;exact⟨ob,h1,h2.2.1⟩
 ·obtain⟨_,hd,xs,_,dd⟩:=mR I.aw e;refine⟨dd.typeIs,fun b q=>?_,hd⟩;cases q;obtain⟨ob,_,_,h1,h2,_⟩:=dd;exact⟨ob,h1,h2.2.1⟩
section
variable{X:Cx}{aa:List (Addr×Obj)}{σ:St}{H:Hp}{s:Shared}{a:Addr}{y d:V}{u r:Value}{o:Option V}{A:Around}{E:Value->Shared->Prop}
theorem SY{Q:Value->Shared->Prop}(hu:A.units+1<cLine)(I:Inv X aa σ H s)(g:dM H a y o)(ry:RelV y u)(h: ∀w' s',Inv X aa σ H s'->RelV (o.getD .aN) w'->Q w' s'):
  wpAny (model X.prog X.w) A (call (.builtin "dict.get") [.ref a,u]) Q E s:=by
 rcases g with⟨af,k,e,ey,l⟩ |⟨af,k,b,e,ey,eb,l⟩
 ·subst ey;obtain⟨z,hd,vs,rel,dd⟩:=mQ I.aw e;refine call_meetsIn PySem.F.slot_dict_get dd.typeIs PySem.F.entry_dict_get (PySem.F.args_dict_get_2 _ _) (meets_dict_get (dJ X.prog X.w) a (lD ry) hd) ⟨_,dd.mapOf,h _ _ (I.tok _) ?_⟩;rw[l];exact(rel.val k).getD rfl
 ·subst ey;cases (show u=Value.ref b from ry);obtain⟨z,hd,xs,rel,dd⟩:=mR I.aw e;refine call_meetsIn PySem.F.slot_dict_get dd.typeIs PySem.F.entry_dict_get (PySem.F.args_dict_get_2 _ _) (meetsH_dict_get (tupleKind (dJ X.prog X.w)) a b hd) ⟨tupleKind_room_in1 hu,k,xs,pC I.aw eb,dd,h _ _ (I.tok _) ?_⟩;rw[l];exact(rel.val k).getD rfl
end
inductive G0(Q:VK)(a:Addr)(y:V)(H2:Hp):Prop
 |mk o:dM H2 a y o->Q (o.getD .aN) H2->G0 Q a y H2
inductive GZ(ty:TE)(σ:St)(Q:VK)(x:V)(H1:Hp):Prop
 |mk a:x= .ref a->K_ H1 a->ty σ H1 (G0 Q a)->GZ ty σ Q x H1
def T_(td ty:TE):TE:=fun σ H Q=>td σ H (GZ ty σ Q)
section
variable{X:Cx}{o e f:Expr}{cJ eF:Pos}{td ty tx:TE}
theorem QZ(hu:X.A.units+1<cLine)(ho:PE X o td)(he:PE X e ty)(m:M1 X o "get" cJ e eF):PE X (.Call (.Attribute o "get" cJ) [e] [] eF) (T_ td ty):=by
 intro aa s σ H Q I h;refine wpAny_Call_method m.base m.gB m.line PySem.F.plainAttrs_dict PySem.F.slot_dict_get PySem.F.type_dict_get (aF (ho aa s σ H _ I h) fun u s1 ⟨x,H1,I1,rx,a,ex,d,q1⟩=>?_);subst ex;obtain rfl:u=Value.ref a:=rx;obtain⟨t1,t2,_⟩:=Tc I1 d;refine⟨t1,t2,?_⟩;rw[m.trees];refine Calls.callWith_builtin rfl (Calls.evalArgs_plain (Calls.spliced_cons (aF (he aa s1 σ H1 _ I1 q1) fun iv s2 ⟨y,H2,I2,ry,ov,g,q2⟩=>Calls.spliced_nil ?_)));exact SY hu I2 g ry fun w' s3 I3 gI=>⟨_,H2,I3,gI,q2⟩
end
section
variable{X:Cx}{aa:List (Addr×Obj)}{σ:St}{H:Hp}{s:Shared}{a:Addr}{af:List (Key×V)}{A:Around}{E:Value->Shared->Prop}
end
section
variable{X:Cx}{aa:List (Addr×Obj)}{σ:St}{H:Hp}{s:Shared}{a:Addr}{y:V}{u:Value}{A:Around}{E:Value->Shared->Prop}
end
section
variable{prog:Program}{w:World}{A:Around}{E:Value->Shared->Prop}
end
section
variable{X:Cx}
end
theorem M0:bootBuiltins "reversed"=some (.type "reversed"):=by decide +kernel
section
variable{X:Cx}{aa:List (Addr×Obj)}{σ:St}{H:Hp}{s:Shared}{h':Heap}
theorem Inv.P6{t':Nat}{ch:List Addr}{T:Addr}{ob:HO}(I:Inv X aa σ H s)(k: ∀b o,b∉ch->s.heap.get? b=some o->h'.get? b=some o)(hf: ∀b∈ch,eC X aa H b)(hT:s.heap.objs.size<=T)
  (new:bG X.prog X.w (upd H T ob) h' T ob):Inv X aa σ (upd H T ob) {s with heap:=h',toks:=t'}:=by
 have hn:H T=none:=I.aw.fresh hT;have uf: ∀b u,H b=some u->b∉ch:=fun b u e z=>by
  have q:=(hf b z).1;rw[q] at e;cases e
 refine I.step (g':=s.gens) (d':=s.drawn) (ch:=ch) (fun b hb=>⟨(hf b hb).2.2.2.1,(hf b hb).2.1,(hf b hb).2.2.2.2.1,(hf b hb).2.2.2.2.2⟩) (fun b o _ _ hc e _=>k b o hc e) (fun b o _ _ hc e _=>⟨o.slots,k b o hc e⟩)
  (fun b o _ e n=>?_) (fun b o hc e=>⟨o,k b o hc e⟩) (fun b xs e=>?_) (fun b o u e=>?_) (fun b ps e=>⟨#[],?_⟩) (fun m hm=>?_) (fun b u e=>?_) I.bare
 ·rw[aj (Nat.ne_of_lt (Nat.lt_of_lt_of_le (Heap.lt_size e) hT))];exact n
 ·rw[aj (aR e hn)];exact e
 ·rw[aj (aR e hn)];exact e
 ·rw[aj (aR e hn),e];simp
 ·obtain⟨o,es,ep,ho,r⟩:=hm;exact⟨o,es,ep,k _ o (fun z=>(hf _ z).2.1 rfl) ho,r⟩
 ·by_cases hb:b=T
  ·subst hb;rw[au] at e;cases e;exact new
  ·rw[aj hb] at e;refine(I.aw b u e).ia (fun c v hc q=>k c v ?_ q) (fun c q=>by rw[aj (aR q hn)];exact q) fun c xs q=>by rw[aj (aR q hn)];exact q
   rcases hc with z |z
   ·rw[z];exact uf b u e
   ·exact uf c _ z
end
section
variable{X:Cx}
theorem zq{tg:Expr}{aa:List (Addr×Obj)}{σ:St}{H:Hp}{s:Shared}{R:It->Hp->Prop}{J:It}{tn:Nat->Heap->Prop}{tk:Nat}(I:Inv X aa σ H s)(o:Obj)
  (T:Turn X.prog X.w X.K tg J [s.heap.objs.size] s.heap.objs.size tn) (st:tn 0 (s.heap.push o)) (q:R J H):wx X aa σ tg R (.ref s.heap.objs.size) {s with heap:=s.heap.push o,toks:=tk}:=by
 refine⟨s.heap.objs.size,[s.heap.objs.size],tn,J,H,rfl,I.kept fun b ob e=>Heap.get?_push_of_some _ e,T,st,fun b hb=>?_,q⟩;have e:b=s.heap.objs.size:=by simpa using hb
 subst e;exact I.lL (Nat.le_refl _) (I.aw.fresh (Nat.le_refl _))
end
section
variable{X:Cx}{tg:Expr}
end
def sU(K:FG)(a:Addr)(n:Nat):It:=
 ⟨fun i H=>i<n/\ ∃(xs:List V)(x:V),aA K H a xs/\xs[n-1-i]? =some x,fun i H x H'=>H'=H/\ ∀xs,aA K H a xs->xs[n-1-i]? =some x,fun i _=>n<=i⟩
theorem Ro{P:Program}{w:World}{K:FG}{tg:Expr}(a it:Addr)(n:Nat):Turn P w K tg (sU K a n) [it] it (fun i h=>i<=n/\h.IsRevIter it a ((n:Int)-1-(i:Nat))) where
 mem:=by simp
 obj:=fun i h st b hb=>by
  have e:b=it:=by simpa using hb
  subst e;obtain⟨_,o,e,c,d⟩:=st;exact⟨o,e,fun v z=>by rw[d] at z;cases z⟩
 keep:=fun i h h' st k=>⟨st.1,st.2.at fun o e=>k it (by simp) o e⟩
 item:=by
  intro X hP hw hK hc i aa s σ H E I hf st hg;subst hP hw hK;obtain⟨p9,xs,x,hq,hx⟩:=hg;obtain⟨aq,rv,p,hz⟩:=I.list hq;obtain⟨u,hu,ru⟩:=rv.get hx;obtain⟨f0,f1,f2,f3,f4,f5⟩:=hf it (by simp);obtain⟨_,ik⟩:=st;have e1:(n:Int)-1-((i:Nat):Int)=((n-1-i:Nat):Int):=by omega
  rw[e1] at ik;refine wpAny_pyNext_rev_item ik p.isList (x:=u) (by simpa using hu) fun h' fJ sb=>?_;have e2:((n-1-i:Nat):Int)-1=(n:Int)-1-((i+1:Nat):Int):=by omega
  rw[e2] at fJ;have I1:Inv X aa σ H {s with heap:=h'}:=I.turned (t':=s.toks) (fun b o hb e=>(sb.2 b hb).trans e) f0 f1 f3 f4 f5;obtain⟨o,e,c,d⟩:=id fJ;exact⟨u,rfl,sk (s:={s with heap:=h'}) e c d (by decide) ⟨x,H,I1,ru,⟨rfl,fun ys hy=>by rw[I.yN hy hq];exact hx⟩,⟨p9,fJ⟩,fun b hb=>(hf b hb).1⟩⟩
 done:=by
  intro X hP hw hK hc i aa s σ H E I hf st hg;subst hP hw hK;obtain⟨f0,f1,f2,f3,f4,f5⟩:=hf it (by simp);obtain⟨p9,ik⟩:=st;have W6:n<=i:=hg;have e1:(n:Int)-1-((i:Nat):Int)= -1:=by omega
  rw[e1] at ik;exact wpAny_pyNext_rev_end (I.ok.hd hc) ik fun h' eb=>⟨rfl,I.turned (t':=s.toks) (fun b o hb e=>eb b o hb e) f0 f1 f3 f4 f5⟩
 self:=fun A i s Q E st h=>wpAny_pyIter_revIter st.2 h
inductive IT(K:FG)(R:It->Hp->Prop)(vs:List V)(H1:Hp):Prop
 |mk(a:Addr)(xs:List V):vs=[.ref a]->aA K H1 a xs->R (sU K a xs.length) H1->IT K R vs H1
def VM(K:FG)(ta:TA):TI:=fun σ H R=>ta σ H (IT K R)
section
variable{X:Cx}{tg:Expr}
theorem Oy{e:Expr}{ta:TA}{p pos:Pos}(hg:Gl X "reversed")(hm:X.mg "reversed"=none)(ha:PA X [e] ta)(hs:starEach [e] X.env=[(false,eval e X.env)]:=by rfl):PI X tg (.Call (.Name "reversed" p) [e] [] pos) (VM X.K ta):=by
 intro aa s σ H R I h;refine Call_ (rZ I hg hm M0 (PyProof.Rows.callWith_type1 (aF (ha pos aa s σ H _ I h) fun us s1 ⟨vs,H1,I1,r1,q1⟩=>?_) hs rfl));obtain⟨a,xs,e,hq,q⟩:=q1;subst e;cases r1 with
 |cons r rr=>
  cases rr;cases r;obtain⟨aq,rv,p',hz⟩:=I1.list hq;have hl:=rv.length;have e1:((aq.toArray.size:Nat):Int)-1=(xs.length:Int)-1-((0:Nat):Int):=by simp only [List.size_toArray];omega
  refine call_reversed_list p'.isList (wpAny_pyIter_revIter (l:=a) (i:=((aq.toArray.size:Nat):Int)-1) ⟨_,Heap.get?_push_size _ rfl,rfl,rfl⟩ ?_);refine zq (tk:=s1.toks) I1 _ (Ro a _ xs.length) ⟨Nat.zero_le _,?_⟩ q;rw[<-e1];exact⟨_,Heap.get?_push_size _ rfl,rfl,rfl⟩
end
def sR(x:Str):It:=⟨fun i _=>i<x.cps.size,fun i H v H'=>H'=H/\ ∃c,x.cps[i]? =some c/\v= .str ⟨#[c]⟩,fun i _=>x.cps.size<=i⟩
theorem G7{P:Program}{w:World}{K:FG}{tg:Expr}(it:Addr)(x:Str)(t:Tok)(ty:String)(iq:ty="str_ascii_iterator"∨ty="str_iterator"):
  Turn P w K tg (sR x) [it] it (fun i h=>h.IsStrIter it ty x t i) where
 mem:=by simp
 obj:=fun i h st b hb=>by
  have e:b=it:=by simpa using hb
  subst e;obtain⟨o,e,c,d⟩:=st;exact⟨o,e,fun v z=>by rw[d] at z;cases z⟩
 keep:=fun i h h' st k=>let⟨o,ho,r⟩:=st;⟨o,k it (by simp) o ho,r⟩
 item:=by
  intro X hP hw hK hc i aa s σ H E I hf st hg;subst hP hw hK;obtain⟨f0,f1,f2,f3,f4,f5⟩:=hf it (by simp);have W:Walks X.prog X.w X.A it [it] [it] x.cps.size (SignAt x) (fun i h=>h.IsStrIter it ty x t i):=by
   rcases iq with e |e
   ·rw[e];exact Walks.strAscii (I.ok.hd hc) it x t
   ·rw[e];exact Walks.strWide (I.ok.hd hc) it x t
  have nz:["enumerate","zip","dict_itemiterator","dict_reverseitemiterator","odict_iterator","itertools.zip_longest","itertools.pairwise"].contains ty=false:=by
   rcases iq with e |e
   ·rw[e];decide
   ·rw[e];decide
  refine W.item i s _ _ hg st fun v h' tk hv fJ kk=>?_;obtain⟨c,u,W0,rfl⟩:=hv;have I1:Inv X aa σ H {s with heap:=h',toks:=tk}:=I.turned (fun b o hb e=>kk b o (by simpa using hb) e) f0 f1 f3 f4 f5;obtain⟨oi,e,cc,dd⟩:=id fJ;exact⟨_,rfl,sk (s:={s with heap:=h',toks:=tk}) e cc dd nz ⟨.str ⟨#[c]⟩,H,I1,⟨u,rfl⟩,⟨rfl,c,W0,rfl⟩,fJ,fun b hb=>(hf b hb).1⟩⟩
 done:=by
  intro X hP hw hK hc i aa s σ H E I hf st hg;subst hP hw hK;obtain⟨f0,f1,f2,f3,f4,f5⟩:=hf it (by simp);have hx:x.cps[i]? =none:=Array.getElem?_eq_none hg;rcases iq with e |e
  ·rw[e] at st;exact wpAny_pyNext_ascii_end (I.ok.hd hc) st hx fun h' eb=>⟨rfl,I.turned (t':=s.toks) (fun b o hb e=>eb b o hb e) f0 f1 f3 f4 f5⟩
  ·rw[e] at st;exact wpAny_pyNext_wide_end (I.ok.hd hc) st hx fun h' eb=>⟨rfl,I.turned (t':=s.toks) (fun b o hb e=>eb b o hb e) f0 f1 f3 f4 f5⟩
 self:=fun A i s Q E st h=>by
  rcases iq with e |e
  ·rw[e] at st;exact wpAny_pyIter_striter_ascii st h
  ·rw[e] at st;exact wpAny_pyIter_striter_wide st h
inductive IU(R:It->Hp->Prop)(v:V)(H1:Hp):Prop
 |mk x:v= .str x->R (sR x) H1->IU R v H1
def VN(te:TE):TI:=fun σ H R=>te σ H (IU R)
theorem TN{X:Cx}{tg e:Expr}{te:TE}(he:PE X e te):PI X tg e (VN te):=by
 intro aa s σ H R I h;refine aF (he aa s σ H _ I h) fun v s1 ⟨y,H1,I1,r1,x,ex,q⟩=>?_;subst ex;obtain⟨t,rfl⟩:=r1;cases ha:x.cps.all (· <128)
 ·exact wpAny_pyIter_wide ha (zq (tk:=s1.toks) I1 _ (G7 _ x t "str_iterator" (.inr rfl)) ⟨_,Heap.get?_push_size _ rfl,rfl,rfl⟩ q)
 ·exact wpAny_pyIter_ascii ha (zq (tk:=s1.toks) I1 _ (G7 _ x t "str_ascii_iterator" (.inl rfl)) ⟨_,Heap.get?_push_size _ rfl,rfl,rfl⟩ q)
section
variable{prog:Program}{w:World}{A:Around}{E:Value->Shared->Prop}{s:Shared}
end
section
variable{X:Cx}{aa:List (Addr×Obj)}{σ:St}{H:Hp}{s:Shared}{d:Addr}{o:Obj}
end
section
variable{P:Program}{w:World}{K:FG}{tg:Expr}{d:Addr}{o:Obj}{es:Array DictEntry}{ep:Nat}
end
section
variable{X:Cx}{tg e:Expr}{td:TE}{cJ eF:Pos}
end
def sQ(K:FG)(a:Addr):It:=
 ⟨fun i H=> ∃(xs:List V)(x:V),aA K H a xs/\xs[i]? =some x,fun i H v H'=> ∃T x,v= .ref T/\H T=none/\H'=upd H T (.tup [.int (i:Nat),x])/\ ∀xs,aA K H a xs->xs[i]? =some x,fun i H=> ∃xs:List V,aA K H a xs/\xs.length<=i⟩
theorem P4{P:Program}{w:World}{K:FG}{zV:List Expr}{kk:Nat}{pV:Pos}(a e it:Addr):
  Turn P w K (.Tuple zV kk pV) (sQ K a) [e,it] e (fun i h=>(∃iu,IsEnum h e it ((i:Nat):Int) iu)/\h.IsListIter it a i/\e≠it) where
 mem:=by simp
 obj:=fun i h st b hb=>by
  obtain⟨⟨iu,he⟩,⟨o,ho,hc,hd⟩,_⟩:=st;have e':b=e∨b=it:=by simpa using hb
  rcases e' with z |z
  ·rw[z];exact⟨_,he,fun v q=>nomatch q⟩
  ·rw[z];exact⟨o,ho,fun v q=>by rw[hd] at q;cases q⟩
 keep:=fun i h h' st k=>let⟨⟨iu,he⟩,hi,bo⟩:=st;⟨⟨iu,k e (by simp) _ he⟩,hi.at fun o q=>k it (by simp) o q,bo⟩
 item:=by
  intro X hP hw hK hc i aa s σ H E I hf st hg;subst hP hw hK;obtain⟨⟨iu,he⟩,ik,bo⟩:=st;obtain⟨xs,x,hq,hx⟩:=hg;obtain⟨aq,rv,p,hz⟩:=I.list hq;obtain⟨u,hu,ru⟩:=rv.get hx;have AH:e<s.heap.objs.size:=Heap.lt_size he;have LA:it<s.heap.objs.size:=by obtain⟨_,q,_⟩:=ik;exact Heap.lt_size q
  refine wpAny_pyNext_enum_item he ik p.isList (x:=u) (by simpa using hu) bo fun h' ho Vy hT hsz hk=>?_;refine⟨_,rfl,wpAny_letOwnedTupleGo_enum (s:={s with heap:=h',toks:=s.toks+1}) ho fun tp W4 sb=>?_⟩;have WQ:tp.get? s.heap.objs.size=some {cls:= .type "tuple",data:= .seq #[.int i s.toks,u]}:=(sb.2 _ (Nat.ne_of_gt AH)).trans hT;have new:bG X.prog X.w (upd H s.heap.objs.size (.tup [.int (i:Nat),x])) tp s.heap.objs.size (.tup [.int (i:Nat),x]):=
   ⟨by show 2<=sizeLine;decide,[.int i s.toks,u],.cons ⟨_,rfl⟩ (.cons ru .nil),⟨_,WQ,rfl,_,rfl⟩⟩
  have I1:Inv X aa σ (upd H s.heap.objs.size (.tup [.int (i:Nat),x])) {s with heap:=tp,toks:=s.toks+1}:=
   I.P6 (ch:=[e,it]) (fun b ob hb q=>(sb.2 b (fun z=>hb (by simp [z]))).trans (hk b ob (fun z=>hb (by simp [z])) (fun z=>hb (by simp [z])) q)) hf (Nat.le_refl _) new
  refine⟨.ref s.heap.objs.size,_,I1,rfl,⟨_,x,rfl,I.aw.fresh (Nat.le_refl _),rfl,fun ys hy=>by rw[I.yN hy hq];exact hx⟩,⟨⟨u,?_⟩,Vy.at fun o q=>(sb.2 it (Ne.symm bo)).trans q,bo⟩,fun b hb=>?_⟩
  ·have e1:((i+1:Nat):Int)=(i:Int)+1:=by omega
   rw[e1];exact W4
  ·have cy:b<s.heap.objs.size:=by
    have e':b=e∨b=it:=by simpa using hb
    rcases e' with z |z
    ·rw[z];exact AH
    ·rw[z];exact LA
   rw[aj (Nat.ne_of_lt cy)];exact(hf b hb).1
 done:=by
  intro X hP hw hK hc i aa s σ H E I hf st hg;subst hP hw hK;obtain⟨⟨iu,he⟩,ik,bo⟩:=st;obtain⟨xs,hq,hx⟩:=hg;obtain⟨aq,rv,p,hz⟩:=I.list hq;obtain⟨f0,f1,f2,f3,f4,f5⟩:=hf it (by simp);have hl:=rv.length;exact wpAny_pyNext_enum_end (I.ok.hd hc) he ik p.isList (by simp;omega) fun h' eb=>⟨rfl,I.turned (t':=s.toks) (fun b o hb q=>eb b o hb q) f0 f1 f3 f4 f5⟩
 self:=fun A i s Q E st h=>let⟨⟨_,he⟩,_⟩:=st;wpAny_pyIter_enum he h
inductive Hq(K:FG)(R:It->Hp->Prop)(vs:List V)(H1:Hp):Prop
 |mk a xs:vs=[.ref a]->aA K H1 a xs->R (sQ K a) H1->Hq K R vs H1
def UD(K:FG)(ta:TA):TI:=fun σ H R=>ta σ H (Hq K R)
theorem Sj{X:Cx}{e:Expr}{ta:TA}{p pos pV:Pos}{zV:List Expr}{kk:Nat}(hg:Gl X "enumerate")(hm:X.mg "enumerate"=none)(ha:PA X [e] ta)(hs:starEach [e] X.env=[(false,eval e X.env)]:=by rfl):
  PI X (.Tuple zV kk pV) (.Call (.Name "enumerate" p) [e] [] pos) (UD X.K ta):=by
 intro aa s σ H R I h;refine Call_ (rZ I hg hm boot_enumerate (PyProof.Rows.callWith_type1 (aF (ha pos aa s σ H _ I h) fun us s1 ⟨vs,H1,I1,r1,q1⟩=>?_) hs rfl));obtain⟨a,xs,ex,hq,q⟩:=q1;subst ex;cases r1 with
 |cons r rr=>
  cases rr;cases r;obtain⟨aq,rv,p',hz⟩:=I1.list hq;refine call_enumerate_list p'.isList fun h' he ik hsz hk=>wpAny_pyIter_enum he ?_;have I2:Inv X aa σ H1 {s1 with heap:=h'}:=I1.kept (t':=s1.toks) hk;refine⟨s1.heap.objs.size+1,[s1.heap.objs.size+1,s1.heap.objs.size],_,_,H1,rfl,I2,P4 a (s1.heap.objs.size+1) s1.heap.objs.size,⟨⟨.none,he⟩,ik,Nat.succ_ne_self _⟩,fun b hb=>?_,q⟩;have e':b=s1.heap.objs.size+1∨b=s1.heap.objs.size:=by simpa using hb
  have LF:s1.heap.objs.size<=b:=by
   rcases e' with z |z
   ·rw[z];exact Nat.le_add_right _ _
   ·rw[z];exact Nat.le_refl _
  exact I1.lL LF (I1.aw.fresh LF)
end L2
section
namespace Vg
open PySem PyProof.Rows
end Vg
end
section
namespace TL
open PySem PySem.Builtin PySem.Builtin.Str PySem.StrLaws
abbrev tl(x:Str):List Nat:=x.cps.toList
theorem yC(x y:Str):tl (x++y)=tl x++tl y:=by
 show(x++y).cps.toList=_;rw[Str.cps_append,Array.toList_append]
def so(S:List Nat):List (List Nat)->List Nat
 |[]=>[]
 |[p]=>p
 |p::q::r=>p++(S++so S (q::r))
theorem IC(y:Str): ∀pM:List Str,tl (Str.join y pM)=so (tl y) (pM.map tl)
 |[]=>rfl
 |[_]=>rfl
 |x::z::r=>by
  show tl (x++y++Str.join y (z::r))=tl x++(tl y++so (tl y) ((z::r).map tl));rw[yC,yC,IC y (z::r),List.append_assoc]
theorem join_eq(y:Str)(pM:List Str):Txt.join y pM=Str.join y pM:=glued_eq_join y pM
end TL
end
namespace L2
open PySem PySem.Spec PyProof.Rows
theorem xI: ∀{ys:List Str}{us:List Value},Vals (ys.map V.str) us->StrsAre us ys
 |[],_,.nil=> .nil
 |y::ys,_,.cons r t=>by
  obtain⟨k,rfl⟩:=r;exact .cons y k (xI t)
section
variable{X:Cx}{aa:List (Addr×Obj)}{σ:St}{H:Hp}{s:Shared}{Q:VK}
end
section
variable{X:Cx}
theorem RV:sW X "str.join" (fun x xs H Q=> ∃a p,∃ys:List Str,x= .str a/\xs=[.ref p]/\(aA X.K H p (ys.map V.str)∨bu X.K H p (ys.map V.str))/\
  (ys.map (·.length)).sum+ys.length*a.length<=16777216/\Q (.str (Txt.join a ys)) H):=by
 intro aa s σ H x xs v us Q I rx rs h;obtain⟨a,p,ys,rfl,rfl,hp,hz,h⟩:=h;obtain⟨t,rfl⟩:=rx;cases rs with
 |cons r1 rs=>
  cases rs;cases r1;rcases hp with hp |hp
  ·obtain⟨aq,r,⟨o,n,ho,hc,_,hd⟩,_⟩:=I.list hp;exact PyProof.Rows.join_list (items:=aq.toArray) ⟨o,ho,hc,n,hd⟩ (by rw[List.toList_toArray];exact xI r) hz fun t' k=>⟨.str _,H,I.tok k,⟨t',rfl⟩,h⟩
  ·obtain⟨aq,r,ht,_⟩:=I.tuple hp;exact PyProof.Rows.join_tuple (items:=aq.toArray) ht (by rw[List.toList_toArray];exact xI r) hz fun t' k=>⟨.str _,H,I.tok k,⟨t',rfl⟩,h⟩
end
section
variable{X:Cx}{o e:Expr}{to te:TE}
def U7(r:V->List V->Hp->VK->Prop)(te:TE)(σ:St)(Q:VK):VK:=fun x H1=>(∃a,x= .str a)/\te σ H1 fun y H2=>r x [y] H2 Q
def Me(r:V->List V->Hp->VK->Prop)(to te:TE):TE:=fun σ H Q=>to σ H (U7 r te σ Q)
theorem UQ{id:String}{name:Str}{cJ pos:Pos}{r:V->List V->Hp->VK->Prop}(slot:Slot "str" name id)(ty:typeOf (.builtin id)=pure (.type "method_descriptor"))(rule:sW X id r)(ho:PE X o to)(he:PE X e te)
  (hs:starEach [e] X.env=[(false,eval e X.env)]:=by rfl) (mT:attributeBase o name X.env (eval o X.env)=eval o X.env:=by rfl) (mU:(cJ.endLine==pos.line)=true:=by rfl):
  PE X (.Call (.Attribute o name cJ) [e] [] pos) (Me r to te):=by
 intro aa s σ H Q I h;refine PySem.Call_method1 mT hs mU (aF (ho aa s σ H _ I h) fun v s1 ⟨x,H1,I1,r1,q1⟩=>?_);obtain⟨⟨a,rfl⟩,q1⟩:=q1;obtain⟨t,rfl⟩:=_root_.id r1;refine⟨"str",_,F.plainAttrs_str,slot,ty,typeIs_str _ _ _,(fun _ e=>nomatch e),Calls.callWith_builtin rfl (Calls.evalArgs_plain (Calls.spliced_cons ?_))⟩;exact aF (he aa s1 σ H1 _ I1 q1) fun u s2 ⟨y,H2,I2,r2,q2⟩=>Calls.spliced_nil (rule aa s2 σ H2 _ [y] _ [u] Q I2 r1 (.cons r2 .nil) q2)
theorem Si{cJ pos:Pos}(ho:PE X o to)(he:PE X e te)(hs:starEach [e] X.env=[(false,eval e X.env)]:=by rfl)(mT:attributeBase o "join" X.env (eval o X.env)=eval o X.env:=by rfl)(mU:(cJ.endLine==pos.line)=true:=by rfl):
  PE X (.Call (.Attribute o "join" cJ) [e] [] pos) (Me (fun x xs H Q=> ∃a p,∃ys:List Str,x= .str a/\xs=[.ref p]/\(aA X.K H p (ys.map V.str)∨bu X.K H p (ys.map V.str))/\
   (ys.map (·.length)).sum+ys.length*a.length<=16777216/\Q (.str (Txt.join a ys)) H) to te):=
 UQ F.slot_str_join F.type_str_join RV ho he hs mT mU
end
section
variable{X:Cx}
end
end L2
namespace V9
open PySem PySem.W PySem.Calls PyProof.Rows
section
variable{prog:Program}{w:World}{A:Around}{E:Value->Shared->Prop}{s:Shared}{K:Frag}
end
end V9
namespace L2
open PySem PySem.Spec PyProof.Rows
def inClass(s:Stmt)(j:Nat):Stmt:=match s with
 | .ClassDef _ _ _ fz _ _ _ _ _ _ _=>fz.getD j (.Pass ⟨0,0,0,0⟩)
 |_=> .Pass ⟨0,0,0,0⟩
def mC(s:Stmt):Arguments:=match s with
 | .FunctionDef _ a _ _ _ _ _ _ _ _=>a
 |_=>{posonlyargs:=[],args:=[],vararg:=none,kwonlyargs:=[],kw_defaults:=[],kwarg:=none,defaults:=[]}
def lj(s:Stmt):List Stmt:=match s with
 | .FunctionDef _ _ b _ _ _ _ _ _ _=>b
 |_=>[]
def aG(s:Stmt):Scope:=match s with
 | .FunctionDef _ _ _ _ _ _ sc _ _ _=>sc
 |_=>{kind:= .function,names:=[],isGenerator:=false,isCoroutine:=false}
abbrev E0:XK:=fun _ _ _=>False
structure m_(K:FG)(x bK:Str)(st:Stmt)(f:Addr)(fd:FuncData):Prop where
 ex: ∃(oc:Value)(od:Option Addr)(kV dX pm:Value)(an:Option Addr)(ay ct:Value)(iw:Array (Option Value)),
  fd=PySem.W.fnOf x bK (mC st) (lj st) (aG st) .none kV dX pm an ay ct/\K.lookup f=some ⟨oc,od,.func fd,iw⟩/\PySem.W.codeIn K ay bK=true
 kp:PySem.W.keepIn K (.ref f)=true
section
variable{P:Program}{w:World}{K:FG}{mg:Str->Option Value}{base:Heap}
theorem m_.binds{x bK:Str}{st:Stmt}{f:Addr}{fd:FuncData}{ps:List Str}(F:m_ K x bK st f fd)
  (h: ∀(kV dX pm:Value)(an:Option Addr)(ay ct:Value)(us:List Value),us.length=ps.length->bindArgs (PySem.W.fnOf x bK (mC st) (lj st) (aG st) .none kV dX pm an ay ct) ⟨us,[]⟩=pure (ps.zip us)):Binds K fd ps []:=by
 obtain⟨oc,od,kV,dX,pm,an,ay,ct,iw,rfl,lk,jA⟩:=F.ex;exact .all (h kV dX pm an ay ct)
theorem vH{x bK:Str}{st:Stmt}{f:Addr}{oc:Value}{od an:Option Addr}{iw:Array (Option Value)}{kV dX pm ay ct:Value}(l:K.lookup f=some ⟨oc,od,.func (PySem.W.fnOf x bK (mC st) (lj st) (aG st) .none kV dX pm an ay ct),iw⟩)
  (c:PySem.W.codeIn K ay bK=true) (k:PySem.W.keepIn K (.ref f)=true):m_ K x bK st f (PySem.W.fnOf x bK (mC st) (lj st) (aG st) .none kV dX pm an ay ct):=⟨⟨oc,od,kV,dX,pm,an,ay,ct,iw,rfl,l,c⟩,k⟩
end
section
variable{X:Cx}
theorem pv(i:Nat){x:Str}{pos:Pos}(hN:X.N[i]? =some x:=by rfl)(hv:pY X.env.scope x:=by first |exact Or.inl rfl |exact Or.inr (Or.inl rfl) |exact Or.inr (Or.inr rfl))(hd:(x==("__debug__":Str))=false:=by decide)
  (jA:(x==("__classdict__":Str))=false:=by decide):PE X (.Name x pos) (dU i):=TM hN hv hd jA
end
theorem kb{A B:Prop}(h:B):if false=true then A else B:=by
 rw[if_neg Bool.false_ne_true];exact h
theorem pR{A B:Prop}(h:A):if true=true then A else B:=by
 rw[if_pos rfl];exact h
theorem Kx{c A B:Prop}[Decidable c](h1:c->A)(h2: ¬c->B):if c then A else B:=by
 by_cases h:c
 ·rw[if_pos h];exact h1 h
 ·rw[if_neg h];exact h2 h
def ai(H H':Hp):Prop:= ∀b o,H b=some o->H' b=some o
theorem ai.refl(H:Hp):ai H H:=fun _ _ h=>h
theorem ai.trans{H H1 H2:Hp}(a:ai H H1)(b:ai H1 H2):ai H H2:=fun c o h=>b c o (a c o h)
theorem ai.free{H H':Hp}(e:ai H H'){l:Addr}(h:H' l=Option.none):H l=Option.none:=by
 cases q:H l with
 |none=>rfl
 |some o=>
  rw[e l o q] at h;cases h
theorem ai.seq{K:FG}{H H':Hp}{a:Addr}{xs:List V}(e:ai H H')(h:aA K H a xs):aA K H' a xs:=by
 rcases h with(h |⟨o,h⟩) |h
 ·exact .inl (.inl (e _ _ h))
 ·exact .inl (.inr ⟨o,e _ _ h⟩)
 ·exact .inr h
section
variable{κ:Type}[DecidableEq κ]
end
theorem at_of{xs:List V}{z:Int}{j:Nat}{v:V}(e:z=(j:Int))(h:xs[j]? =some v):kj xs z=some v:=by
 rw[e];exact Rv h
theorem J5{α:Type}{l:List α}(hN:l.Nodup){i j:Nat}{x:α}(a:l[i]? =some x)(b:l[j]? =some x):i=j:=by
 obtain⟨h1,e1⟩:=List.getElem?_eq_some_iff.mp a;obtain⟨h2,e2⟩:=List.getElem?_eq_some_iff.mp b;exact(List.getElem_inj hN).mp (e1.trans e2.symm)
open PySem.W (WData Codec OpenSpec Well WellAll ReadsW ReadsAllW)
mutual
inductive Dw(K:FG)(H:Hp):V->WData->Prop
 |aN:Dw K H .aN .none
 |bl (b:Bool):Dw K H (.bl b) (.bool b)
 |int (i:Int):Dw K H (.int i) (.int i)
 |str (x:Str):Dw K H (.str x) (.str x)
 |eU (b:Array UInt8):Dw K H (.eU b) (.bytes b.toList)
 |lst {a:Addr} {xs:List V} {ds:List WData}:aA K H a xs->g_ K H xs ds->Dw K H (.ref a) (.list ds)
 |tup {a:Addr} {xs:List V} {ds:List WData}:bu K H a xs->g_ K H xs ds->Dw K H (.ref a) (.tuple ds)
inductive g_(K:FG)(H:Hp):List V->List WData->Prop
 |nil:g_ K H [] []
 |cons {v:V} {vs:List V} {d:WData} {ds:List WData}:Dw K H v d->g_ K H vs ds->g_ K H (v::vs) (d::ds)
end
theorem Hl{K:FG}{H:Hp}: ∀ns:List Int,g_ K H (ns.map V.int) (ns.map WData.int)
 |[]=> .nil
 |n::r=> .cons (.int n) (Hl r)
theorem Hu{K:FG}{H:Hp}: ∀(ns:List Int)(xs:List V),g_ K H xs (ns.map WData.int)->xs=ns.map V.int
 |[],xs,h=>by
  cases h;rfl
 |n::r,xs,h=>by
  cases h with
  |cons h1 h2=>
   cases h1;rw[Hu r _ h2]<;>rfl
section
variable{P:Program}{w:World}{K:FG}{H:Hp}{h:Heap}{R:PySem.W.WRecords}{cl:Str->Option Addr}
theorem T3{a:Addr}{xs:List V}(aw:bY P w H h)(KX:K.In h)(q:aA K H a xs): ∃(aq:List Value)(o:Obj)(n:Nat),Vals xs aq/\h.get? a=some o/\o.cls= .type "list"/\o.data= .seq aq.toArray n:=by
 rcases q with q |⟨o,aq,n,e,hc,_,hd,_,hv⟩
 ·obtain⟨_,aq,n,hv,e⟩:=(show bG P w H h a (.lst xs) from q.ok aw);exact⟨aq,_,n,hv,e,rfl,rfl⟩
 ·exact⟨aq.toList,o,n,hv,KX _ _ e,hc,by simp [hd]⟩
theorem T4{a:Addr}{xs:List V}(aw:bY P w H h)(KX:K.In h)(q:bu K H a xs): ∃(aq:List Value)(o:Obj)(n:Nat),Vals xs aq/\h.get? a=some o/\o.cls= .type "tuple"/\o.data= .seq aq.toArray n:=by
 rcases q with q |⟨o,aq,n,e,hc,hd,_,hv⟩
 ·obtain⟨_,aq,hv,o,e,hc,n,hd⟩:=(show bG P w H h a (.tup xs) from q.ok aw);exact⟨aq,o,n,hv,e,hc,hd⟩
 ·exact⟨aq.toList,o,n,hv,KX _ _ e,hc,by simp [hd]⟩
mutual
theorem Dw.reads(aw:bY P w H h)(KX:K.In h): ∀(d:WData)(v:V)(u:Value),Dw K H v d->RelV v u-> ∃as,ReadsW R cl h u d as
 | .none,_,_,x,r=>by
  cases x;cases r;exact⟨_,ReadsW.none⟩
 | .bool b,_,_,x,r=>by
  cases x;cases r;exact⟨_,ReadsW.bool b⟩
 | .int i,_,_,x,r=>by
  cases x;obtain⟨t,rfl⟩:=r;exact⟨_,ReadsW.int i t⟩
 | .str s,_,_,x,r=>by
  cases x;obtain⟨t,rfl⟩:=r;exact⟨_,ReadsW.str s t⟩
 | .bytes b,_,_,x,r=>by
  cases x;obtain⟨t,rfl⟩:=r;exact⟨_,ReadsW.bytes _ t⟩
 | .list ds,_,_,x,r=>by
  cases x with
  |lst hs ha=>
   cases r;obtain⟨aq,o,n,rv,ho,hc,hd⟩:=T3 aw KX hs;obtain⟨as,hr⟩:=Dw.readsAll aw KX ds _ aq ha rv;exact⟨_,ReadsW.list ho hc hd hr⟩
 | .tuple ds,_,_,x,r=>by
  cases x with
  |tup hs ha=>
   cases r;obtain⟨aq,o,n,rv,ho,hc,hd⟩:=T4 aw KX hs;obtain⟨as,hr⟩:=Dw.readsAll aw KX ds _ aq ha rv;exact⟨_,ReadsW.tuple ho hc hd hr⟩
 | .float _,_,_,x,_=>by cases x
 | .dict _,_,_,x,_=>by cases x
 | .bytearray _,_,_,x,_=>by cases x
 | .set _,_,_,x,_=>by cases x
 | .frozenset _,_,_,x,_=>by cases x
 | .obj _ _,_,_,x,_=>by cases x
theorem Dw.readsAll(aw:bY P w H h)(KX:K.In h): ∀(ds:List WData)(vs:List V)(us:List Value),g_ K H vs ds->Vals vs us-> ∃as,ReadsAllW R cl h us ds as
 |[],_,_,x,r=>by
  cases x;cases r;exact⟨_,ReadsAllW.nil⟩
 |d::ds,_,_,x,r=>by
  cases x with
  |cons h1 h2=>
   cases r with
   |cons r1 r2=>
    obtain⟨as,q1⟩:=Dw.reads aw KX d _ _ h1 r1;obtain⟨bs,q2⟩:=Dw.readsAll aw KX ds _ _ h2 r2;exact⟨_,ReadsAllW.cons q1 q2⟩
end
end
mutual
def f7:WData->Bool
 | .none=>true
 | .bool _=>true
 | .int _=>true
 | .str _=>true
 | .bytes _=>true
 | .list xs=>h_ xs
 | .tuple xs=>h_ xs
 |_=>false
def h_:List WData->Bool
 |[]=>true
 |x::r=>f7 x&&h_ r
end
theorem Ge{α:Type}{f:α->WData}(h: ∀a,f7 (f a)=true): ∀l:List α,h_ (l.map f)=true
 |[]=>rfl
 |x::r=>by
  show(f7 (f x)&&h_ (r.map f))=true;rw[h x,Ge h r]<;>rfl
theorem ly: ∀(c:Codec)(a:c.denote),f7 (c.enc a)=true
 | .unit,_=>rfl
 | .bool,_=>rfl
 | .int _ _,_=>rfl
 | .nat _ _,_=>rfl
 | .u8,_=>rfl
 | .bytes _ _,_=>rfl
 | .text _ _ _ _,_=>rfl
 | .list _ _ c,a=>Ge (fun x=>ly c x) a
 | .pair c d,a=>by
  show(f7 (c.enc a.1)&&(f7 (d.enc a.2)&&true))=true;rw[ly c a.1,ly d a.2]<;>rfl
 | .triple c d e,a=>by
  show(f7 (c.enc a.1)&&(f7 (d.enc a.2.1)&&(f7 (e.enc a.2.2)&&true)))=true;rw[ly c a.1,ly d a.2.1,ly e a.2.2]<;>rfl
 | .option c,none=>rfl
 | .option c,some x=>ly c x
theorem E8: ∀(cs:List Codec)(a:Codec.denoteAll cs),h_ (Codec.encAll cs a)=true
 |[],_=>rfl
 |c::cs,a=>by
  show(f7 (c.enc a.1)&&h_ (Codec.encAll cs a.2))=true;rw[ly c a.1,E8 cs a.2]<;>rfl
theorem yj: ∀{xs:List WData}{d:WData},d∈xs->d.weight<=WData.weightAll xs
 |[],d,h=>absurd h (by simp)
 |x::r,d,h=>by
  show d.weight<=x.weight+1+WData.weightAll r;rcases List.mem_cons.mp h with e |m
  ·rw[e];omega
  ·have z:=yj m;omega
def toV:Value->V
 | .none=> .aN
 | .bool b=> .bl b
 | .int i _=> .int i
 | .str x _=> .str x
 | .bytes b _=> .eU b
 | .ref a=> .ref a
 |_=> .aN
def gu(A:List Addr):Value->Prop
 | .none=>True
 | .bool _=>True
 | .int _ _=>True
 | .str _ _=>True
 | .bytes _ _=>True
 | .ref a=>a∈A
 |_=>False
theorem gu.mono{A B:List Addr}(h: ∀a∈A,a∈B): ∀{u:Value},gu A u->gu B u:=fun {u} x=>by
 cases u with
 |ref a=>exact h a x
 |none=>trivial
 |bool b=>trivial
 |int i t=>trivial
 |str s t=>trivial
 |bytes b t=>trivial
 |_=>exact False.elim x
theorem Q7{A:List Addr}{u:Value}(x:gu A u):RelV (toV u) u:=by
 cases u with
 |ref a=>rfl
 |none=>rfl
 |bool b=>rfl
 |int i t=>exact⟨t,rfl⟩
 |str s t=>exact⟨t,rfl⟩
 |bytes b t=>exact⟨t,rfl⟩
 |_=>exact False.elim x
theorem ph{A:List Addr}: ∀{vs:List Value},(∀u∈vs,gu A u)->Vals (vs.map toV) vs
 |[],_=> .nil
 |u::r,h=> .cons (Q7 (h u (List.mem_cons_self ..))) (ph fun x hx=>h x (List.mem_cons_of_mem _ hx))
def g9(h:Heap)(A:List Addr)(a:Addr):Prop:= ∃vs:List Value,vs.length<=sizeLine/\(∀u∈vs,gu A u)/\
 (h.get? a=some {cls:= .type "list",data:= .seq vs.toArray}∨h.get? a=some {cls:= .type "tuple",data:= .seq vs.toArray})
theorem g9.mono{h:Heap}{A B:List Addr}{a:Addr}(k: ∀a∈A,a∈B)(x:g9 h A a):g9 h B a:=by
 obtain⟨vs,h1,h2,h3⟩:=x;exact⟨vs,h1,fun u hu=>(h2 u hu).mono k,h3⟩
theorem uJ{P:Params}{h:Heap}: ∀{vs:List Value}{ds:List WData},WellAll P h vs ds->vs.length=ds.length
 |_,_,.nil=>rfl
 |_,_,.cons _ b=>by
  show _+1=_+1;rw[uJ b]
theorem FO{P:Params}{h:Heap}{v:Value}{ds:List WData}(x:Well P h v (.list ds)): ∃(a:Addr)(vs:List Value),v= .ref a/\h.get? a=some {cls:= .type "list",data:= .seq vs.toArray}/\WellAll P h vs ds:=by
 cases x with
 |list ho gp=>exact⟨_,_,rfl,ho,gp⟩
theorem EH{P:Params}{h:Heap}{v:Value}{ds:List WData}(x:Well P h v (.tuple ds)): ∃(a:Addr)(vs:List Value),v= .ref a/\h.get? a=some {cls:= .type "tuple",data:= .seq vs.toArray}/\WellAll P h vs ds:=by
 cases x with
 |tuple ho gp=>exact⟨_,_,rfl,ho,gp⟩
theorem FN{P:Params}{h:Heap}{us:List Value}{d:WData}{ds:List WData}(x:WellAll P h us (d::ds)): ∃(v:Value)(vs:List Value),us=v::vs/\Well P h v d/\WellAll P h vs ds:=by
 cases x with
 |cons a b=>exact⟨_,_,rfl,a,b⟩
theorem HA{n:Nat}(h:n<=1048576):n<=sizeLine:=Nat.le_trans h (by decide)
section
variable{P:Params}{h:Heap}
mutual
theorem P9: ∀(d:WData)(v:Value),Well P h v d->f7 d=true->d.weight<=1048576-> ∃A:List Addr,gu A v/\ ∀a∈A,g9 h A a
 | .none,_,x,_,_=>by
  cases x;exact⟨[],trivial,fun a m=>absurd m (by simp)⟩
 | .bool b,_,x,_,_=>by
  cases x;exact⟨[],trivial,fun a m=>absurd m (by simp)⟩
 | .int i,_,x,_,_=>by
  cases x;exact⟨[],trivial,fun a m=>absurd m (by simp)⟩
 | .str s,_,x,_,_=>by
  cases x;exact⟨[],trivial,fun a m=>absurd m (by simp)⟩
 | .bytes b,_,x,_,_=>by
  cases x;exact⟨[],trivial,fun a m=>absurd m (by simp)⟩
 | .list ds,_,x,p,z=>by
  obtain⟨a,vs,rfl,ho,gp⟩:=FO x;have z2:WData.weightAll ds<=1048576:=z;obtain⟨A,h1,h2⟩:=vc ds _ gp p fun d hd=>Nat.le_trans (yj hd) z2;have k: ∀b∈A,b∈a::A:=fun b hb=>List.mem_cons_of_mem _ hb;refine⟨a::A,List.mem_cons_self ..,fun b hb=>?_⟩;rcases List.mem_cons.mp hb with e |m
  ·rw[e];exact⟨vs,HA (by rw[uJ gp];exact Nat.le_trans (PySem.W.length_le_weightAllW ds) z2),fun u hu=>(h1 u hu).mono k,.inl ho⟩
  ·exact(h2 b m).mono k
 | .tuple ds,_,x,p,z=>by
  obtain⟨a,vs,rfl,ho,gp⟩:=EH x;have z2:WData.weightAll ds<=1048576:=z;obtain⟨A,h1,h2⟩:=vc ds _ gp p fun d hd=>Nat.le_trans (yj hd) z2;have k: ∀b∈A,b∈a::A:=fun b hb=>List.mem_cons_of_mem _ hb;refine⟨a::A,List.mem_cons_self ..,fun b hb=>?_⟩;rcases List.mem_cons.mp hb with e |m
  ·rw[e];exact⟨vs,HA (by rw[uJ gp];exact Nat.le_trans (PySem.W.length_le_weightAllW ds) z2),fun u hu=>(h1 u hu).mono k,.inr ho⟩
  ·exact(h2 b m).mono k
 | .float _,_,_,p,_=>Bool.noConfusion (show false=true from p)
 | .dict _,_,_,p,_=>Bool.noConfusion (show false=true from p)
 | .bytearray _,_,_,p,_=>Bool.noConfusion (show false=true from p)
 | .set _,_,_,p,_=>Bool.noConfusion (show false=true from p)
 | .frozenset _,_,_,p,_=>Bool.noConfusion (show false=true from p)
 | .obj _ _,_,_,p,_=>Bool.noConfusion (show false=true from p)
theorem vc: ∀(ds:List WData)(vs:List Value),WellAll P h vs ds->h_ ds=true->(∀d∈ds,d.weight<=1048576)-> ∃A:List Addr,(∀u∈vs,gu A u)/\ ∀a∈A,g9 h A a
 |[],_,x,_,_=>by
  cases x;exact⟨[],fun u m=>absurd m (by simp),fun a m=>absurd m (by simp)⟩
 |d::ds,_,x,p,z=>by
  obtain⟨v,vs,rfl,x1,x2⟩:=FN x;have q:f7 d=true/\h_ ds=true:=Bool.and_eq_true_iff.mp p;obtain⟨A,a1,a2⟩:=P9 d v x1 q.1 (z d (List.mem_cons_self ..));obtain⟨B,b1,b2⟩:=vc ds vs x2 q.2 fun e he=>z e (List.mem_cons_of_mem _ he);have kA: ∀b∈A,b∈A++B:=fun b hb=>List.mem_append.mpr (.inl hb);have kB: ∀b∈B,b∈A++B:=fun b hb=>List.mem_append.mpr (.inr hb);refine⟨A++B,fun u hu=>?_,fun b hb=>?_⟩
  ·rcases List.mem_cons.mp hu with e |m
   ·rw[e];exact a1.mono kA
   ·exact(b1 u m).mono kB
  ·rcases List.mem_append.mp hb with m |m
   ·exact(a2 b m).mono kA
   ·exact(b2 b m).mono kB
end
end
def wb(o:Obj):Option HO:=match o.data with
 | .seq vs _=>if(o.cls==Value.type "list")=true then some (.dk o (.lst (vs.toList.map toV))) else some (.dk o (.tup (vs.toList.map toV)))
 |_=>none
def d_(K:FG)(h:Heap)(A:List Addr):Hp:=fun b=>if b∈A then(if(K.lookup b).isNone=true then(h.get? b).bind wb else none) else none
def mO(H:Hp):Prop:= ∀b,H b=none∨ ∃o u,H b=some (.dk o u)
theorem FW(vs:List Value):wb {cls:= .type "list",data:= .seq vs.toArray}=some (.dk {cls:= .type "list",data:= .seq vs.toArray} (.lst (vs.map toV))):=by
 show(if(Value.type "list"==Value.type "list")=true then some (HO.dk {cls:= .type "list",data:= .seq vs.toArray} (.lst (vs.toArray.toList.map toV))) else some (HO.dk {cls:= .type "list",data:= .seq vs.toArray} (.tup (vs.toArray.toList.map toV))))=_;rw[if_pos (beq_self_eq_true _)]
theorem FX(vs:List Value):wb {cls:= .type "tuple",data:= .seq vs.toArray}=some (.dk {cls:= .type "tuple",data:= .seq vs.toArray} (.tup (vs.map toV))):=by
 show(if(Value.type "tuple"==Value.type "list")=true then some (HO.dk {cls:= .type "tuple",data:= .seq vs.toArray} (.lst (vs.toArray.toList.map toV))) else some (HO.dk {cls:= .type "tuple",data:= .seq vs.toArray} (.tup (vs.toArray.toList.map toV))))=_;rw[if_neg (by decide)]
section
variable{P:Program}{w:World}{K:FG}{h:Heap}{A:List Addr}
theorem vp{b:Addr}{o:Obj}(hb:b∈A)(hk:K.lookup b=none)(e:h.get? b=some o):d_ K h A b=wb o:=by
 unfold d_;rw[if_pos hb,hk,if_pos (show(none:Option Obj).isNone=true from rfl),e]<;>rfl
theorem RY{b:Addr}{u:HO}(q:d_ K h A b=some u):b∈A/\K.lookup b=none:=by
 unfold d_ at q
 by_cases hb:b∈A
 ·rw[if_pos hb] at q;cases hk:K.lookup b with
  |none=>exact⟨hb,rfl⟩
  |some o=>
   rw[hk,if_neg (by simp)] at q;cases q
 ·rw[if_neg hb] at q;cases q
theorem vq(ar: ∀a∈A,g9 h A a){b:Addr}{u:HO}(q:d_ K h A b=some u):K.lookup b=none/\ ∃vs:List Value,vs.length<=sizeLine/\(∀u∈vs,gu A u)/\
  ((h.get? b=some {cls:= .type "list",data:= .seq vs.toArray}/\u= .dk {cls:= .type "list",data:= .seq vs.toArray} (.lst (vs.map toV)))∨
   (h.get? b=some {cls:= .type "tuple",data:= .seq vs.toArray}/\u= .dk {cls:= .type "tuple",data:= .seq vs.toArray} (.tup (vs.map toV)))):=by
 obtain⟨hb,hk⟩:=RY q;obtain⟨vs,h1,h2,h3⟩:=ar b hb;refine⟨hk,vs,h1,h2,?_⟩;rcases h3 with e |e
 ·rw[vp hb hk e,FW] at q;exact .inl ⟨e,(Option.some.inj q).symm⟩
 ·rw[vp hb hk e,FX] at q;exact .inr ⟨e,(Option.some.inj q).symm⟩
theorem Pa(ar: ∀a∈A,g9 h A a):mO (d_ K h A):=fun b=>by
 cases q:d_ K h A b with
 |none=>exact .inl rfl
 |some u=>
  obtain⟨_,vs,_,_,⟨_,e⟩ |⟨_,e⟩⟩:=vq ar q
  ·exact .inr ⟨_,_,by rw[e]⟩
  ·exact .inr ⟨_,_,by rw[e]⟩
theorem Ru(ar: ∀a∈A,g9 h A a):bY P w (d_ K h A) h:=fun b u q=>by
 obtain⟨_,vs,h1,h2,⟨e,rfl⟩ |⟨e,rfl⟩⟩:=vq ar q
 ·exact⟨e,by rw[List.length_map];exact h1,vs,_,ph h2,e⟩
 ·exact⟨e,by rw[List.length_map];exact h1,vs,ph h2,_,e,rfl,_,rfl⟩
theorem vD{c c':Value}{vs us:List Value}(e:(some {cls:=c,data:= .seq vs.toArray}:Option Obj)=some {cls:=c',data:= .seq us.toArray}):c=c'/\vs=us:=by
 have e1:=Option.some.inj e;have e2:c=c':=congrArg Obj.cls e1;have e3:Data.seq vs.toArray=Data.seq us.toArray:=congrArg Obj.data e1
 injection e3 with e4
 refine⟨e2,?_⟩;have e5:=congrArg Array.toList e4;simpa using e5
theorem Vj(KX:K.In h)(ar: ∀a∈A,g9 h A a){a:Addr}{vs:List Value}(ha:a∈A)(e:h.get? a=some {cls:= .type "list",data:= .seq vs.toArray}):(∀u∈vs,gu A u)/\aA K (d_ K h A) a (vs.map toV):=by
 obtain⟨us,h1,h2,h3⟩:=ar a ha;have hu:us=vs:=by
  rcases h3 with q |q
  ·rw[e] at q;exact(vD q).2.symm
  ·rw[e] at q;exact absurd (Value.type.inj (vD q).1) (by decide)
 subst hu;refine⟨h2,?_⟩;cases hk:K.lookup a with
 |none=>exact .inl (.inr ⟨_,by rw[vp ha hk e,FW]⟩)
 |some o=>
  have e2:=KX a o hk;rw[e] at e2;obtain rfl:=Option.some.inj e2;exact .inr ⟨_,us.toArray,_,hk,rfl,rfl,rfl,by rw[List.size_toArray];exact h1,by simpa using ph h2⟩
theorem Vk(KX:K.In h)(ar: ∀a∈A,g9 h A a){a:Addr}{vs:List Value}(ha:a∈A)(e:h.get? a=some {cls:= .type "tuple",data:= .seq vs.toArray}):(∀u∈vs,gu A u)/\bu K (d_ K h A) a (vs.map toV):=by
 obtain⟨us,h1,h2,h3⟩:=ar a ha;have hu:us=vs:=by
  rcases h3 with q |q
  ·rw[e] at q;exact absurd (Value.type.inj (vD q).1) (by decide)
  ·rw[e] at q;exact(vD q).2.symm
 subst hu;refine⟨h2,?_⟩;cases hk:K.lookup a with
 |none=>exact .inl (.inr ⟨_,by rw[vp ha hk e,FX]⟩)
 |some o=>
  have e2:=KX a o hk;rw[e] at e2;obtain rfl:=Option.some.inj e2;exact .inr ⟨_,us.toArray,_,hk,rfl,rfl,by rw[List.size_toArray];exact h1,by simpa using ph h2⟩
mutual
theorem S1{Pm:Params}(KX:K.In h)(ar: ∀a∈A,g9 h A a): ∀(d:WData)(v:Value),Well Pm h v d->f7 d=true->gu A v->Dw K (d_ K h A) (toV v) d
 | .none,_,x,_,_=>by
  cases x;exact .aN
 | .bool b,_,x,_,_=>by
  cases x;exact .bl b
 | .int i,_,x,_,_=>by
  cases x;exact .int i
 | .str s,_,x,_,_=>by
  cases x;exact .str s
 | .bytes b,_,x,_,_=>by
  cases x;have z:=Dw.eU (K:=K) (H:=d_ K h A) b.toArray;exact z
 | .list ds,_,x,p,hu=>by
  obtain⟨a,vs,rfl,ho,gp⟩:=FO x;obtain⟨h2,hs⟩:=Vj KX ar hu ho;exact .lst hs (vG KX ar ds _ gp p h2)
 | .tuple ds,_,x,p,hu=>by
  obtain⟨a,vs,rfl,ho,gp⟩:=EH x;obtain⟨h2,hs⟩:=Vk KX ar hu ho;exact .tup hs (vG KX ar ds _ gp p h2)
 | .float _,_,_,p,_=>Bool.noConfusion (show false=true from p)
 | .dict _,_,_,p,_=>Bool.noConfusion (show false=true from p)
 | .bytearray _,_,_,p,_=>Bool.noConfusion (show false=true from p)
 | .set _,_,_,p,_=>Bool.noConfusion (show false=true from p)
 | .frozenset _,_,_,p,_=>Bool.noConfusion (show false=true from p)
 | .obj _ _,_,_,p,_=>Bool.noConfusion (show false=true from p)
theorem vG{Pm:Params}(KX:K.In h)(ar: ∀a∈A,g9 h A a): ∀(ds:List WData)(vs:List Value),WellAll Pm h vs ds->h_ ds=true->(∀u∈vs,gu A u)->g_ K (d_ K h A) (vs.map toV) ds
 |[],_,x,_,_=>by
  cases x;exact .nil
 |d::ds,_,x,p,hu=>by
  obtain⟨v,vs,rfl,x1,x2⟩:=FN x;have q:f7 d=true/\h_ ds=true:=Bool.and_eq_true_iff.mp p;exact .cons (S1 KX ar d v x1 q.1 (hu _ (List.mem_cons_self ..))) (vG KX ar ds vs x2 q.2 fun u m=>hu u (List.mem_cons_of_mem _ m))
end
end
theorem PY{P:Program}{w:World}{K:FG}{mg mb:Str->Option Value}{CX:fS}{k:Nat}{fa:Addr}{fd:FuncData}{ps:List Str}{sp:Sp}{s₁:Shared}{ju:List Value}{ds:List WData}{R:PySem.W.WRecords}{cl:Str->Option Addr}{d0:WData}
  (KX:K.In s₁.heap) (LJ:s₁.heap.Ns mainGlobals mg) (hb:s₁.heap.Ns builtinsNs mb) (WY: ∀x:Str,x≠"__name__"->mb x=bootBuiltins x) (z_:s₁.heap.NoLimit) (hg:s₁.gens= #[])
  (ua:WellAll w.params s₁.heap ju ds) (cz:h_ ds=true) (Xz: ∀d∈ds,d.weight<=1048576) (hr:az k callerA)
  (F: ∀base:Heap,K.In base->base.Ns mainGlobals mg->aB P w K mg base CX k fa fd ps sp) (Uv: ∀(s:Shared)(us:List Value),us.length=ps.length->BindsTo s fd ⟨us,[]⟩ (ps.zip us)) (bH:ds.length=ps.length)
  (i3: ∀(H:Hp)(xs:List V),mO H->g_ K H xs ds->sp xs H (fun v H'=>Dw K H' v d0) fun _ _ _=>False)
  (Ay: ∀H e s',CX [] H s₁ (fun _ _ _=>False) e s'->False):
  codeAny (model P w) callerA (.call (.ref fa) ⟨ju,[]⟩) (fun r s'=> ∃u as,r= .ok (.ret u)/\ReadsW R cl s'.heap u d0 as/\OldK s₁.heap s'.heap/\s'.os=s₁.os/\AllBare s'.gens) s₁:=by
 obtain⟨A,ho,ar⟩:=vc ds ju ua cz Xz;have hO:mO (d_ K s₁.heap A):=Pa ar;have aw:bY P w (d_ K s₁.heap A) s₁.heap:=Ru ar;have hS:=vG KX ar ds ju ua cz ho;have hV:=ph ho;have hK: ∀b u,d_ K s₁.heap A b=some u->K.lookup b=none:=fun b u q=>(vq ar q).1;have qr: ∀{b:Addr}{o:Obj}{es:Array DictEntry}{ep:Nat},s₁.heap.get? b=some o->o.data= .dict es ep->d_ K s₁.heap A b=none:=fun {b o es ep} e d=>by
  cases q:d_ K s₁.heap A b with
  |none=>rfl
  |some u=>
   obtain⟨_,vs,_,_,⟨e2,_⟩ |⟨e2,_⟩⟩:=vq ar q
   ·rw[e2] at e;cases e;have d':Data.seq vs.toArray _=Data.dict es ep:=d;cases d'
   ·rw[e2] at e;cases e;have d':Data.seq vs.toArray _=Data.dict es ep:=d;cases d'
 generalize d_ K s₁.heap A=H at hO aw hS hK qr;have He: ∀{b:Addr}{o:Obj},s₁.heap.get? b=some o->H b=none->(j9 s₁.heap H).get? b=some o:=fun e n=>Qs e n;have xf: ∀{b:Addr}{m:Str->Option Value},s₁.heap.Ns b m->(j9 s₁.heap H).Ns b m:=fun {b m} ⟨o,es,ep,e,d,r⟩=>⟨o,es,ep,He e (qr e d),d,r⟩;have nK: ∀b o,K.lookup b=some o->H b=none:=fun b o e=>by
  cases q:H b with
  |none=>rfl
  |some u=>
   rw[hK b u q] at e;cases e
 have Lp:K.In (j9 s₁.heap H):=fun b o e=>He (KX b o e) (nK b o e);have hM:Mod K mg (j9 s₁.heap H):=⟨Lp,xf LJ,⟨mb,xf hb,WY⟩,let⟨mc,h1,h2⟩:=z_;⟨mc,xf h1,h2⟩⟩;have e0:m4 P w K mg (j9 s₁.heap H) callerA [] s₁ H:=⟨rfl,hM,fun b o e=>RZ e,Nat.le_of_eq (Pf _ _),trivial,fun b hb=>absurd (show b∈([]:List Addr) from hb) (by simp),aw,.of_eq hg⟩;have hl:ju.length=ps.length:=by rw[uJ ua];exact bH
 refine codeAny_mono ((F _ Lp (xf LJ)).run callerA [] s₁ H ⟨ju,[]⟩ ju (ju.map toV) _ _ hr e0 (Uv s₁ ju hl) hV (i3 H _ hO hS)) fun r s' x=>?_;cases r with
 |error e=>exact(Ay H e s' x).elim
 |ok fl=>
  cases fl with
  |next=>exact False.elim x
  |brk=>exact False.elim x
  |cont=>exact False.elim x
  |ret u=>
   obtain⟨v,H',os,bare,un,Kv,r',q⟩:=x;have kept: ∀b o,s₁.heap.get? b=some o->s'.heap.get? b=some o:=fun b o e=>by
    cases q2:H b with
    |none=>exact un.keep b o e q2 (by intro z;exact absurd (show b∈([]:List Addr) from z) (by simp)) (by simp)
    |some u2=>
     rcases hO b with z |⟨ob,u3,z⟩
     ·rw[q2] at z;cases z
     ·have z2:=un.gm b ob _ z;obtain⟨e1,_⟩:=aw b _ z;obtain⟨e2,_⟩:=Kv b _ z2;rw[e] at e1;cases e1;exact e2
   have Wb:K.In s'.heap:=fun b o e=>kept b o (KX b o e);obtain⟨as,c6⟩:=Dw.reads (R:=R) (cl:=cl) Kv Wb d0 v u q r';exact⟨u,as,rfl,c6,OldK.of_keep kept,os,bare⟩
theorem M6{ds:List WData}(h:WData.layableAll ds=true): ∀d∈ds,d.weight<=1048576:=fun d hd=>
 (PySem.W.layableW_iff.mp (List.all_eq_true.mp h d hd)).2.2
theorem Ed: ∀(cs:List Codec)(a:Codec.denoteAll cs),(Codec.encAll cs a).length=cs.length
 |[],_=>rfl
 |c::cs,a=>by
  show(Codec.encAll cs a.2).length+1=cs.length+1;rw[Ed cs a.2]
theorem Sk{r:OpenSpec}(k:r.args.all Codec.fits=true){a:Codec.denoteAll r.args}(h:Codec.withinAll r.args a=true)(ds:List WData):r.claim.post (Codec.encAll r.args a) (r.ret.enc (Codec.app r.args r.f a)) ds=true:=by
 show(match Codec.decAll r.args (Codec.encAll r.args a) with |some b=>_ |none=>false)=true;rw[Codec.decAll_encAll r.args (Codec.ok_all r.args k) a h];exact PySem.W.same_iff.mpr rfl
theorem P7{r:OpenSpec}{k:Nat}{q:Program}{UH:List Str}{XP:(Str->Option Value)->Heap->Prop}{YP:World->Heap->Prop}{d:DefRec}{K:Params->FG}{CX:World->fS}{ps:List Str}{sp:World->Sp}
  (UC:r.args.all Codec.fits=true) (Lv:d.params.defaults=[]) (bH:r.args.length=ps.length) (hr:az k callerA)
  (hY: ∀(w:World)(h:Heap),YP w h->(K w.params).In h)
  (F: ∀(w:World)(mg:Str->Option Value)(fa:Addr)(h:Heap),YP w h->(K w.params).In h->h.Ns mainGlobals mg->mg d.name=some (.ref fa)->
   ∃fd:FuncData,(∀(s:Shared)(us:List Value),us.length=ps.length->BindsTo s fd ⟨us,[]⟩ (ps.zip us))/\
    ∀base:Heap,(K w.params).In base->base.Ns mainGlobals mg->aB r.prog w (K w.params) mg base (CX w) k fa fd ps (sp w))
  (i3: ∀(w:World)(H:Hp)(xs:List V)(a:Codec.denoteAll r.args),mO H->Codec.withinAll r.args a=true->Codec.app r.args r.asked a=true->g_ (K w.params) H xs (Codec.encAll r.args a)->
   sp w xs H (fun v H'=>Dw (K w.params) H' v (r.ret.enc (Codec.app r.args r.f a))) fun _ _ _=>False)
  (Ay: ∀(w:World)(H:Hp)(s:Shared)(e:Value)(s':Shared),CX w [] H s (fun _ _ _=>False) e s'->False):
  PySem.W.WalkOS q UH XP YP r d [] (fun f vs=>PySem.call f vs):=by
 intro w dF s₁ mg mb G Y fa o pm cd dX dV kV ho hd jA hD AQ hg args ju as VH VA c6 ua Y2;obtain⟨a,e1,e2⟩:=PySem.W.os_pre_some VH;obtain⟨e3,qk⟩:=Codec.encAll_of_decAll r.args args a e1;subst e3;have KX:=hY w _ Y;obtain⟨fd,hb,hF⟩:=F w mg fa _ Y KX G.T.g AQ;refine PySem.W.enter_call (codeAny_mono (PY (R:=[]) (cl:=classAt dF.heap) (d0:=r.ret.enc (Codec.app r.args r.f a)) KX G.T.g G.T.b G.T.builtins G.T.nolimit hg ua (E8 _ _) (M6 VA) hr hF hb (by rw[Ed];exact bH)
  (fun H xs hO hS=>i3 w H xs a hO qk e2 hS) fun H e s'=>Ay w H s₁ e s') fun r' s' hq=>?_)
 obtain⟨u,We,rfl,h1,h2,h3,h4⟩:=hq;exact⟨.inl ⟨u,_,We,rfl,fun _=>rfl,h1,Sk UC qk _,fun z=>Bool.noConfusion (show false=true from z)⟩,h2,h3,h4⟩
end L2
namespace L2
open PySem PySem.Spec PyProof.Rows
def XO(a C:Addr)(d:Option Addr):HO:= .ext fun h=> ∃t,h.get? a=some {cls:= .ref C,dict:=d,data:= .fields #[.ref t,.none,.none,.none,.bool false,.none]}
def XD(d:Addr)(fs:List (Str×V)):HO:= .ext fun h=> ∃mA,h.Ns1 d mA/\(∀f,di (fs.lookup f) (mA f))/\PySem.Within mA (fs.map (·.1))
def XH(cs a C d:Addr):HO:= .ext fun h=> ∃vs,h.get? a=some {cls:= .ref C,dict:=some d,data:= .fields vs}/\vs.size=6/\(C≠cs->vs[2]? =some .none)
theorem zg{P:Program}{w:World}{H:Hp}{h:Heap}{a:Addr}{φ:Heap->Prop}(p:φ h)(e: ∃o,h.get? a=some o)(st: ∀h1 h2:Heap,φ h1->(∀o,h1.get? a=some o->h2.get? a=some o)->φ h2):bG P w H h a (.ext φ):=⟨p,e,st⟩
theorem XO.ok{P:Program}{w:World}{H:Hp}{h:Heap}{a C t:Addr}{d:Option Addr}(e:h.get? a=some {cls:= .ref C,dict:=d,data:= .fields #[.ref t,.none,.none,.none,.bool false,.none]}):bG P w H h a (XO a C d):=
 zg ⟨t,e⟩ ⟨_,e⟩ fun h1 h2 ⟨t,e⟩ k=>⟨t,k _ e⟩
theorem XD.ok{P:Program}{w:World}{H:Hp}{h:Heap}{d:Addr}{fs:List (Str×V)}{mA:Str->Option Value}(n:h.Ns1 d mA)(r: ∀f,di (fs.lookup f) (mA f))(wi:PySem.Within mA (fs.map (·.1))):bG P w H h d (XD d fs):=
 zg ⟨mA,n,r,wi⟩ (let⟨o,_,_,e,_⟩:=n;⟨o,e⟩) fun h1 h2 ⟨mA,⟨o,es,ep,e,q⟩,r,wi⟩ k=>⟨mA,⟨o,es,ep,k _ e,q⟩,r,wi⟩
theorem XH.ok{P:Program}{w:World}{H:Hp}{h:Heap}{cs a C d:Addr}{vs:Array Value}(e:h.get? a=some {cls:= .ref C,dict:=some d,data:= .fields vs})(z:vs.size=6)(z2:C≠cs->vs[2]? =some .none):bG P w H h a (XH cs a C d):=
 zg ⟨vs,e,z,z2⟩ ⟨_,e⟩ fun h1 h2 ⟨vs,e,q⟩ k=>⟨vs,k _ e,q⟩
def cut(H:Hp)(a:Addr):Hp:=fun b=>if b=a then none else H b
theorem vd{H:Hp}{a:Addr}:cut H a a=none:=by unfold cut;rw[if_pos rfl]
theorem iK{H:Hp}{a b:Addr}(h:b≠a):cut H a b=H b:=by unfold cut;rw[if_neg h]
theorem Qj{H:Hp}{a b:Addr}{o:HO}(h:cut H a b=some o):H b=some o/\b≠a:=by
 by_cases e:b=a
 ·subst e;rw[vd] at h;cases h
 ·rw[iK e] at h;exact⟨h,e⟩
theorem Inv.cut{X:Cx}{aa:List (Addr×Obj)}{σ:St}{H:Hp}{s:Shared}{a:Addr}{φ:Heap->Prop}(I:Inv X aa σ H s)(ha:H a=some (.ext φ)):Inv X aa σ (cut H a) s:=by
 have ne: ∀b u,H b=some u->(∀φ,u≠ .ext φ)->b≠a:=fun b u e n z=>by subst z;rw[ha] at e;cases e;exact n φ rfl
 have un:Un X.fs [] H (L2.cut H a) s.heap s.heap:=
  ⟨fun _ _ e _ _ _=>e,fun _ o e _ _ _=>⟨o.slots,e⟩,fun b _ _ n _=>by
   by_cases e:b=a
   ·rw[e];exact vd
   ·rw[iK e];exact n,fun _ o e _=>⟨o,e⟩,fun b xs e=>by rw[iK (ne b _ e (by intro φ z;cases z))];exact e,
   fun b o u e=>by rw[iK (ne b _ e (by intro φ z;cases z))];exact e,fun b ps e=>⟨#[],by rw[iK (ne b _ e (by intro φ z;cases z)),e];simp⟩⟩
 exact I.un (h':=s.heap) (t':=s.toks) un fun b u e=>by
  obtain⟨e1,_⟩:=Qj e;exact(I.aw b u e1).ia (fun _ _ _ q=>q) (fun c q=>by rw[iK (ne c _ q (by intro φ z;cases z))];exact q) fun c xs q=>by rw[iK (ne c _ q (by intro φ z;cases z))];exact q
abbrev Pk(n:Nat)(H:Hp):Addr->Prop:=fun b=>b<n∨H b≠none
inductive aC(P:Program)(w:World)(cs:Addr)(outer:List Env)(H:Hp)(s:Shared)(E:XK)(e:Value)(s':Shared):Prop
 |mk(a C d:Addr)(H':Hp):e= .ref a->s'.os=s.os->AllBare s'.gens->Un (cK outer) [] H H' s.heap s'.heap->bY P w H' s'.heap->Bx.gj (Pk s.heap.objs.size H') cs s'.heap a C d->E (.ref C) (some d) H'->aC P w cs outer H s E e s'
structure eS(X:Cx)(aa:List (Addr×Obj))(n:Nat):Prop where
 s0:X.dF.heap.objs.size<=n
 loc:X.env.locals<n
 jw: ∀x c,X.env.cells.lookup x=some c->c<n
 pin: ∀p∈X.pn++aa,p.1<n
theorem Inv.lS{X:Cx}{aa:List (Addr×Obj)}{σ:St}{H:Hp}{s:Shared}(I:Inv X aa σ H s):eS X aa s.heap.objs.size:=
 ⟨I.sz,I.lt,fun x c e=>let⟨_,z⟩:=I.cell x c e;z.lt,fun p hp=>Heap.lt_size (I.pin p hp).1⟩
def fT(cs:Addr)(X:Cx)(E:XK):Prop:= ∀(aa:List (Addr×Obj))(σ:St)(H:Hp)(s:Shared)(a C d:Addr)(n:Nat),Inv X aa σ H s->eS X aa n->Bx.lJ (Pk n H) cs s.heap a C d->E (.ref C) (some d) H->X.xe (.ref a) s
theorem fT.passes{cs:Addr}{X:Cx}{E:XK}(T:fT cs X E):Passes (aC X.prog X.w cs) X E:=by
 rintro aa σ H s e s' I ⟨a,C,d,H',rfl,os,bare,un,aw,x,q⟩;have I':Inv X aa σ H' s':=I.vT (ch:=[]) os un aw bare fun b z=>absurd z (by simp);exact T aa σ H' s' a C d _ I' I.lS (.inr x) q
theorem ax{cs:Addr}{X:Cx}:Passes (aC X.prog X.w cs) X E0:=by
 rintro aa σ H s e s' I ⟨a,C,d,H',rfl,os,bare,un,aw,x,q⟩;exact q.elim
section
variable{P:Program}{w:World}{K:FG}{mg:Str->Option Value}{base:Heap}{N:List Str}{bK:Str}{ah:Scope}{f:Addr}{cd:Value}{A:Around}{outer:List Env}{s:Shared}{H:Hp}{E:XK}{cs:Addr}{cm:Bool}
theorem aE:fT cs (js (aC P w cs) cm P w K mg base N bK ah f cd A outer s H E) E:=by
 intro aa σ H' s' a C d n I cv x q;have x:Bx.lJ (Pk s.heap.objs.size H') cs s'.heap a C d:=x.weak fun b _ p=>p.imp (fun z=>Nat.lt_of_lt_of_le z cv.s0) id;have hP: ∀b,Pk s.heap.objs.size H' b->b<s'.heap.objs.size:=fun b p=>by
  rcases p with p |p
  ·exact Nat.lt_of_lt_of_le p I.sz
  ·cases e:H' b with
   |none=>exact absurd e p
   |some o=>exact I.aw.lt e
 show wpAny _ _ (leaving _ (.ref a)) _ _ s';refine Bx.Qz (base:=base) (P:=Pk s.heap.objs.size H') I.ok.frames I.stack rfl hP x fun h' x' k _=>?_;have hf: ∀b,b∈cK outer->b∈(envOfC bK ah s.heap.objs.size f cd::outer).filterMap (·.frame):=fun b m=>by
  rw[List.filterMap_cons];exact List.mem_cons_of_mem _ m
 have nf: ∀b,b<s.heap.objs.size->b∉cK outer->b∉(envOfC bK ah s.heap.objs.size f cd::outer).filterMap (·.frame):=fun b hb hn m=>by
  rw[List.filterMap_cons] at m;rcases List.mem_cons.mp m with e |m
  ·rw[e] at hb;exact Nat.lt_irrefl _ hb
  ·exact hn m
 have WJ: ∀b,b∈(envOfC bK ah s.heap.objs.size f cd::outer).filterMap (·.frame)->H' b=none:=fun b m=>I.vF b m;refine⟨a,C,d,H',rfl,I.os,I.bare,⟨fun b o e n hb hx=>?_,fun b o e n hb hx=>?_,I.base.free,fun b o e hx=>?_,I.base.ic,I.base.gm,I.base.ib⟩,fun b u e=>?_,x',q⟩
 ·exact k.keep b o (.inl (Heap.lt_size e)) (nf b (Heap.lt_size e) hb) (I.base.keep b o e n hb hx)
 ·obtain⟨sl,e1⟩:=I.base.slot b o e n hb hx;obtain⟨nL,e2⟩:=k.slot b _ (hf b hb) e1;exact⟨nL,e2⟩
 ·obtain⟨o',e1⟩:=I.base.there b o e hx
  by_cases hb:b∈cK outer
  ·obtain⟨nL,e2⟩:=k.slot b _ (hf b hb) e1;exact⟨_,e2⟩
  ·exact⟨o',k.keep b o' (.inl (Heap.lt_size e)) (nf b (Heap.lt_size e) hb) e1⟩
 ·refine(I.aw b u e).ia (fun c v hc r=>?_) (fun _ q=>q) fun _ _ q=>q;have tG:H' c≠none:=by
   rcases hc with rfl |hc
   ·rw[e];simp
   ·rw[hc];simp
  exact k.keep c v (.inr tG) (fun m=>tG (WJ c m)) r
theorem eu:PassesOwn (model P w) (js (aC P w cs) cm P w K mg base N bK ah f cd A outer s H E).A (js (aC P w cs) cm P w K mg base N bK ah f cd A outer s H E).env (js (aC P w cs) cm P w K mg base N bK ah f cd A outer s H E).xe:=PassesOwn.leaving
end
section
variable{P:Program}{w:World}{K:FG}{mg:Str->Option Value}{base:Heap}{cs:Addr}
theorem m_.aJ{x bK:Str}{st:Stmt}{f:Addr}{fd:FuncData}{N ps:List Str}{k:Nat}{sp:Sp}(cm:Bool)(F:m_ K x bK st f fd)(S:aI N ps (aG st))(len: ∀vs H Q E,sp vs H Q E->vs.length=ps.length)
  (zC: ∀(ay:Value)(A:Around)(outer:List Env)(s:Shared)(H:Hp)(vs:List V)(Q:VK)(E:XK),az k (A.deeper (envOfC bK (aG st) s.heap.objs.size f ay))->sp vs H Q E->
   ∃t,gw (js (aC P w cs) cm P w K mg base N bK (aG st) f ay A outer s H E) (lj st) t/\t {nx:=fun _ H'=>Q .aN H',rt:=Q} (start N vs) H) (hk:cm=true->4<=k:=by first |(intro _;decide) |(intro h;cases h)):aB P w K mg base (aC P w cs) (k+1) f fd ps sp:=by
 obtain⟨oc,od,kV,dX,pm,an,ay,ct,iw,rfl,lk,jA⟩:=F.ex;exact Us lk jA S len hk fun A outer s H vs Q E hr i3=>zC ay A outer s H vs Q E hr i3
end
structure fB(K:FG)(C:Addr):Prop where
 xc:Bx.jv K C=true
 ga:PySem.W.findIn K (.ref C) "__getattribute__"=some (some (.builtin "BaseException.__getattribute__"))
 gt:PySem.W.findIn K (.ref C) "__getattr__"=some none
 sa:PySem.W.findIn K (.ref C) "__setattr__"=some (some (.builtin "object.__setattr__"))
 kp:PySem.W.keepIn K (.ref C)=true
theorem fB.hd{K:FG}{C:Addr}(c:fB K C):PySem.W.hasDictIn K C=true:=by
 have q:=c.xc;unfold Bx.jv at q;unfold PySem.W.hasDictIn PySem.W.clsIn
 split at q
 ·rename_i dd cd sl ho
  split at q
  ·simp only [Bool.and_eq_true,beq_iff_eq,Bool.not_eq_true'] at q;rw[ho];exact q.1.2
  ·cases q
 ·cases q
section
variable{X:Cx}{aa:List (Addr×Obj)}{σ:St}{H:Hp}{s:Shared}{a C d:Addr}{fs:List (Str×V)}{f:Str}{v y:V}{u:Value}{A:Around}{E:Value->Shared->Prop}{Q:Unit->Shared->Prop}
theorem Rj(I:Inv X aa σ H s)(e:H a=some (XO a C none))(c:fB X.K C)(n:cV X.K C f)(ry:RelV y u)
  (h: ∀s' d,H d=none->d≠a->Inv X aa σ (upd (upd H d (XD d [(f,y)])) a (XO a C (some d))) s'->Q () s'):wpAny (model X.prog X.w) A (setAttr (.ref a) f u) Q E s:=by
 obtain⟨⟨t,ho⟩,-,-⟩:=(show bG X.prog X.w H s.heap a (XO a C none) from I.aw a _ e);refine Bx.Rh I.bN c.xc c.sa n.zO ho fun h' h1 h2 h3=>?_;have hd:H s.heap.objs.size=none:=I.aw.fresh (Nat.le_refl _);have gC:s.heap.objs.size≠a:=Nat.ne_of_gt (Heap.lt_size ho);have na: ∀b,H b=none->b≠a:=fun b q z=>by rw[z,e] at q;cases q
 have nt: ∀b o,H b=some o->(∀φ,o≠ .ext φ)->upd (upd H s.heap.objs.size (XD s.heap.objs.size [(f,y)])) a (XO a C (some s.heap.objs.size)) b=some o:=fun b o q z=>by
  have h1:b≠a:=fun w=>by rw[w,e] at q;cases q;exact z _ rfl
  rw[aj h1,aj (aR q hd)];exact q
 refine h _ s.heap.objs.size hd gC (I.un (h':=h') (t':=s.toks+2) ⟨fun b o q z _ _=>h3 b o (na b z) q,fun b o q z _ _=>⟨o.slots,h3 b o (na b z) q⟩,fun b o q z _=>?_,fun b o q _=>?_,fun b xs q=>nt b _ q (by intro φ z;cases z),fun b o x q=>nt b _ q (by intro φ z;cases z),fun b ps q=>⟨#[],by rw[nt b _ q (by intro φ z;cases z)];simp⟩⟩ fun b o q=>?_)
 ·rw[aj (na b z),aj (Nat.ne_of_lt (Heap.lt_size q))];exact z
 ·by_cases w:b=a
  ·rw[w];exact⟨_,h1⟩
  ·exact⟨o,h3 b o w q⟩
 ·by_cases w:b=a
  ·subst w;rw[au] at q;cases q;exact XO.ok h1
  ·rw[aj w] at q
   by_cases w2:b=s.heap.objs.size
   ·subst w2;rw[au] at q;cases q;refine XD.ok h2 (fun g=>?_) fun g hg=>?_
    ·show di (List.lookup g [(f,y)]) (if g=f then some u else none)
     by_cases z:g=f
     ·have hb:(g==f)=true:=beq_iff_eq.mpr z;simp only [List.lookup,hb,if_pos z];exact ry
     ·have hb:(g==f)=false:=beq_eq_false_iff_ne.mpr z;simp only [List.lookup,hb,if_neg z];exact True.intro
    ·by_cases z:g=f
     ·rw[z];exact List.mem_cons_self
     ·exact absurd (if_neg z) hg
   ·rw[aj w2] at q;refine(I.aw b o q).ia (fun c' w' hc r=>h3 c' w' ?_ r) (fun c' q'=>nt c' _ q' (by intro φ z;cases z)) fun c' xs q'=>nt c' _ q' (by intro φ z;cases z);rcases hc with rfl |hc
    ·exact w
    ·intro z;rw[z,e] at hc;cases hc
theorem Rk(I:Inv X aa σ H s)(e:H a=some (XO a C (some d)))(ed:H d=some (XD d fs))(c:fB X.K C)(n:cV X.K C f)(hz:fs.length<1000)(ry:RelV y u)
  (h: ∀s',Inv X aa σ (upd H d (XD d (bD f y fs))) s'->Q () s'):wpAny (model X.prog X.w) A (setAttr (.ref a) f u) Q E s:=by
 obtain⟨⟨t,ho⟩,-,-⟩:=(show bG X.prog X.w H s.heap a (XO a C (some d)) from I.aw a _ e);obtain⟨⟨mA,hn,r,wi⟩,-,-⟩:=(show bG X.prog X.w H s.heap d (XD d fs) from I.aw d _ ed);refine Bx.Ri I.bN c.xc c.sa n.zO ho hn wi (by rw[List.length_map];exact hz) fun h' h1 h2=>h _ ?_;refine I.write (x:=d) (e:=d) (by rw[ed];exact True.intro) (.inl rfl) (fun b q hb z=>h2 b q hb z) (let⟨o,_,_,q,_⟩:=h1;⟨o,q⟩) (XD.ok h1 (fun g=>?_) fun g hg=>?_)
 ·show di ((bD f y fs).lookup g) (if g=f then some u else mA g);rw[xS]
  by_cases q:g=f
  ·rw[if_pos q,if_pos q];exact ry
  ·rw[if_neg q,if_neg q];exact r g
 ·by_cases q:g=f
  ·rw[q];exact(rh f y fs).1
  ·refine(rh f y fs).2 g (wi g fun z=>hg ?_);show(if g=f then some u else mA g)=none;rw[if_neg q];exact z
theorem RM{cs:Addr}{b:Bool}{Q:Value->Shared->Prop}(I:Inv X aa σ H s)(e:H a=some (XH cs a C d))(ed:H d=some (XD d fs))(c:fB X.K C)(n:cV X.K C f)(l:fs.lookup f=some v)
  (h: ∀u s',Inv X aa σ H s'->RelV v u->Q u s'):wpAny (model X.prog X.w) A (getAttr (.ref a) f b) Q E s:=by
 obtain⟨⟨vs,ho,-,-⟩,-,-⟩:=(show bG X.prog X.w H s.heap a (XH cs a C d) from I.aw a _ e);obtain⟨⟨mA,hn,r,wi⟩,-,-⟩:=(show bG X.prog X.w H s.heap d (XD d fs) from I.aw d _ ed);obtain⟨od,tT,hl⟩:=EY hn;obtain⟨u,hu,ru⟩:=di.some_of (v:=v) (o:=mA f) (by rw[<-l];exact r f);exact Bx.RK I.bN c.xc ⟨ho,rfl,rfl,tT⟩ c.ga c.gt (PySem.W.findObj_own c.hd n rfl (by rw[hl,hu])) (ET ru) (h u _ (I.tok _) ru)
end
inductive Ka(K:FG)(f:Str)(D:Ends)(σ:St)(y x:V)(H2:Hp):Prop
 |mk a C:x= .ref a->H2 a=some (XO a C none)->fB K C->cV K C f->(∀d,H2 d=none->d≠a->D.nx σ (upd (upd H2 d (XD d [(f,y)])) a (XO a C (some d))))->Ka K f D σ y x H2
def UW(K:FG)(ta:TE)(f:Str)(D:Ends)(σ:St):VK:=fun y H1=>ta σ H1 (Ka K f D σ y)
def Ya(K:FG)(ta tv:TE)(f:Str):TS:=fun D σ H=>tv σ H (UW K ta f D σ)
inductive Kb(K:FG)(f:Str)(D:Ends)(σ:St)(y x:V)(H2:Hp):Prop
 |mk a C d fs:x= .ref a->H2 a=some (XO a C (some d))->H2 d=some (XD d fs)->fB K C->cV K C f->fs.length<1000->D.nx σ (upd H2 d (XD d (bD f y fs)))->Kb K f D σ y x H2
def UX(K:FG)(ta:TE)(f:Str)(D:Ends)(σ:St):VK:=fun y H1=>ta σ H1 (Kb K f D σ y)
def Yb(K:FG)(ta tv:TE)(f:Str):TS:=fun D σ H=>tv σ H (UX K ta f D σ)
inductive Ki(K:FG)(cs:Addr)(f:Str)(Q:VK)(x:V)(H1:Hp):Prop
 |mk a C d fs v:x= .ref a->H1 a=some (XH cs a C d)->H1 d=some (XD d fs)->fB K C->cV K C f->fs.lookup f=some v->Q v H1->Ki K cs f Q x H1
def Mg(K:FG)(cs:Addr)(ta:TE)(f:Str):TE:=fun σ H Q=>ta σ H (Ki K cs f Q)
section
variable{X:Cx}{o e cO:Expr}{f:Str}{pos dj:Pos}{ta tv:TE}
theorem US(ha:PE X o ta)(hv:PE X cO tv)(hs:swapsWith cO (some (.Attribute o f dj)) pos.line X.env=pure false):PS X (.Assign [.Attribute o f dj] cO pos) (Ya X.K ta tv f):=by
 intro aa s σ H D I h;refine plainObj_wpAny_Assign_Attribute (aF (hv aa s σ H _ I h) fun u s1 ⟨y,H1,I1,ry,q⟩=>aF (ha aa s1 σ H1 _ I1 q) fun ov s2 ⟨x,H2,I2,rx,a,C,ex,ea,c,n,q2⟩=>?_) hs;subst ex;obtain rfl:ov=Value.ref a:=rx;exact Rj I2 ea c n ry fun s3 d hd gC I3=>⟨σ,_,I3,q2 d hd gC⟩
theorem UT(ha:PE X o ta)(hv:PE X cO tv)(hs:swapsWith cO (some (.Attribute o f dj)) pos.line X.env=pure false):PS X (.Assign [.Attribute o f dj] cO pos) (Yb X.K ta tv f):=by
 intro aa s σ H D I h;refine plainObj_wpAny_Assign_Attribute (aF (hv aa s σ H _ I h) fun u s1 ⟨y,H1,I1,ry,q⟩=>aF (ha aa s1 σ H1 _ I1 q) fun ov s2 ⟨x,H2,I2,rx,a,C,d,fs,ex,ea,ed,c,n,hz,q2⟩=>?_) hs;subst ex;obtain rfl:ov=Value.ref a:=rx;exact Rk I2 ea ed c n hz ry fun s3 I3=>⟨σ,_,I3,q2⟩
theorem UR{cs:Addr}(he:PE X e ta)(hb:attributeBase e f X.env (eval e X.env)=eval e X.env):PE X (.Attribute e f pos) (Mg X.K cs ta f):=by
 intro aa s σ H Q I h;refine Hd hb (aF (he aa s σ H _ I h) fun u s1 ⟨x,H1,I1,rx,a,C,d,fs,v,ex,ea,ed,c,n,l,q⟩=>?_);subst ex;obtain rfl:u=Value.ref a:=rx;exact RM I1 ea ed c n l fun u' s2 I2 ru=>⟨v,H1,I2,ru,q⟩
end
structure pX(K:FG)(C f:Addr):Prop where
 cl:fB K C
 init:PySem.W.findIn K (.ref C) "__init__"=some (some (.ref f))
 fn:PySem.W.isFn K (.ref f)=true
section
variable{X:Cx}{CX:fS}{k:Nat}{f C:Addr}{fd:FuncData}{ps:List Str}{sp:Sp}{E:XK}{x:Str}{p pos:Pos}{e:Expr}{es:List Expr}{t:TA}
theorem Inv.UI{aa:List (Addr×Obj)}{σ:St}{H:Hp}{s:Shared}{us:List Value}(I:Inv X aa σ H s):Inv X aa σ (upd H (s.heap.objs.size+1) (XO (s.heap.objs.size+1) C none)) {s with heap:=(s.heap.push (Bx.jk us)).push (Bx.eA C s.heap.objs.size)}:=by
 have e2:((s.heap.push (Bx.jk us)).push (Bx.eA C s.heap.objs.size)).get? (s.heap.objs.size+1)=some (Bx.eA C s.heap.objs.size):=by
  have:=Heap.get?_push_size (s.heap.push (Bx.jk us)) (o:=Bx.eA C s.heap.objs.size) rfl
  rwa [Heap.size_push] at this
 exact I.laid (a:=s.heap.objs.size+1) (o:=XO (s.heap.objs.size+1) C none) (t':=s.toks) (fun b u q=>Heap.get?_push_of_some _ (Heap.get?_push_of_some _ q)) (Nat.le_succ _) (XO.ok e2)
theorem yx{aa:List (Addr×Obj)}{σ:St}{H:Hp}{s:Shared}{Q:Value->Shared->Prop}{us:List Value}{vs:List V}(M:pX X.K C f)(F:aB X.prog X.w X.K X.mg X.base CX k f fd ps sp)(hr:az (k+1) X.A)(hb:Binds X.K fd ps [])
  (hx:Passes CX X E) (I:Inv X aa σ H s) (r:Vals vs us) (hz:us.length<=sizeLine) {R:Addr->Hp->Prop}
  (h: ∀a,H a=none->sp (.ref a::vs) (upd H a (XO a C none)) (fun v H2=>v= .aN/\R a H2) E)
  (hq: ∀a H2 s2,s.heap.objs.size<=a->Inv X aa σ H2 s2->R a H2->Q (.ref a) s2):
  wpAny (model X.prog X.w) X.A (call (.ref C) us) Q X.xe s:=by
 have i3:=h (s.heap.objs.size+1) (I.aw.fresh (Nat.le_succ _));have I2:=Inv.UI (C:=C) (us:=us) I;have r2:Vals (V.ref (s.heap.objs.size+1)::vs) (Value.ref (s.heap.objs.size+1)::us):= .cons rfl r;have hl:((Value.ref (s.heap.objs.size+1)::us)++[]).length=ps.length:=by
  have e:=r2.length;rw[F.len _ _ _ _ i3] at e;rw[List.append_nil];exact e.symm
 obtain⟨hp,g,dr,tk,os⟩:=s;have wL:=hb _ (Value.ref (hp.objs.size+1)::us) I2.bN hl;rw[List.append_nil] at wL;refine wpAny_call (Bx.QB I.bN M.cl.xc M.init (beq_iff_eq.mp M.fn) hz (codeAny_mono (F.run _ X.stack _ _ ⟨Value.ref (hp.objs.size+1)::us,[]⟩ (Value.ref (hp.objs.size+1)::us) _ _ E (hr.make C us [])
  (I2.zW.make C us []) wL r2 i3) fun r s' fY=>?_))
 cases r with
 |error e=>exact hx aa σ _ _ e s' I2 fY
 |ok fl=>
  cases fl with
  |ret u=>
   obtain⟨v,H',I3,rv,ev,q3⟩:=I2.after fY;subst ev;exact⟨rv,hq (hp.objs.size+1) H' s' (Nat.le_succ _) I3 q3⟩
  |next=>exact False.elim fY
  |brk=>exact False.elim fY
  |cont=>exact False.elim fY
def Rc(C:Addr)(sp:Sp)(E E1:XK):List V->Hp->Prop:=fun vs H1=>vs.length<=sizeLine/\ ∀a,H1 a=none->sp (.ref a::vs) (upd H1 a (XO a C none)) (fun v H2=>v= .aN/\ ∃d,H2 a=some (XO a C (some d))/\E (.ref C) (some d) (cut H2 a)) E1
def zu(C:Addr)(sp:Sp)(E E1:XK)(t:TA):TS:=fun _ σ H=>t σ H (Rc C sp E E1)
theorem En{cs:Addr}{aa:List (Addr×Obj)}{σ:St}{H2:Hp}{s2:Shared}{a:Addr}{n:Nat}(T:fT cs X E)(M:pX X.K C f)(hn:eS X aa n)(ha:n<=a)(I2:Inv X aa σ H2 s2)(R: ∃d,H2 a=some (XO a C (some d))/\E (.ref C) (some d) (cut H2 a)):
  ∃(e C:Addr)(bm:List Value)(d:Option Addr)(vs:Array Value),Value.ref a= .ref e/\Bx.XC s2.heap C bm/\s2.heap.get? e=some {cls:= .ref C,dict:=d,data:= .fields vs}/\vs[1]? =some .none/\X.xe (.ref e) s2:=by
 obtain⟨d,ea,q⟩:=R;obtain⟨⟨tt,ho⟩,-,-⟩:=(show bG X.prog X.w H2 s2.heap a (XO a C (some d)) from I2.aw a _ ea);obtain⟨bm,cd,Y,-,-,-⟩:=Bx.jY I2.bN M.cl.xc;refine⟨a,C,bm,_,_,rfl,Y,ho,rfl,T aa σ (cut H2 a) s2 a C d n (I2.cut ea) hn (.inl ⟨fun z=>?_,_,ho,rfl,fun _=>rfl,rfl⟩) q⟩;rcases z with z |z
 ·exact absurd (Nat.lt_of_lt_of_le z ha) (Nat.lt_irrefl _)
 ·exact z vd
theorem jg{cs:Addr}{E1:XK}{rp:Pos}(T:fT cs X E)(hc:X.calm=true)(M:pX X.K C f)(F:aB X.prog X.w X.K X.mg X.base CX k f fd ps sp)(hr:az (k+1) X.A)(hg:Gl X x)(hm:X.mg x=some (.ref C))(hb:Binds X.K fd ps [])(hx:Passes CX X E1)
  (ha:PA X (e::es) t) (bC:(x==("__debug__":Str))=false:=by decide) (he:starEach (e::es) X.env=(false,eval e X.env)::starEach es X.env:=by rfl) (cz:(backTo pos (starEach es X.env)).any (·.1)=false:=by rfl):
  PS X (.Raise (some (.Call (.Name x p) (e::es) [] pos)) none rp) (zu C sp E E1 t):=by
 intro aa s σ H D I h;rw[arm_exec_Raise];refine wpAny_bind (wpAny_standAt (Bx.Em (I.ok.hd hc) (wpAny_bind (aF ?_ fun v s3 h3=>wpAny_bind (wpAny_standAt (wpAny_pure h3))))));refine wpAny_Call_Name_kw (jR I hg hm ?_ bC);refine PySem.W.callWith_K (h₀:=X.base) I.ok.mod.l7 M.cl.kp (aF (ha pos aa s σ H _ I h) fun us s1 ⟨vs,H1,I1,r,hz,q⟩=>⟨I1.bN,?_⟩) he cz;exact yx (R:=fun a H2=> ∃d,H2 a=some (XO a C (some d))/\E (.ref C) (some d) (cut H2 a)) M F hr hb hx I1 r (by show us.length<=_;rw[<-r.length];exact hz) q fun a H2 s2 hs I2 R=>En T M I1.lS hs I2 R
theorem k7{cs:Addr}{E1:XK}{rp:Pos}(T:fT cs X E)(hc:X.calm=true)(M:pX X.K C f)(F:aB X.prog X.w X.K X.mg X.base CX k f fd ps sp)(hr:az (k+1) X.A)(hg:Gl X x)(hm:X.mg x=some (.ref C))(hb:Binds X.K fd ps [])(hx:Passes CX X E1)
  (bC:(x==("__debug__":Str))=false:=by decide):
  PS X (.Raise (some (.Call (.Name x p) [] [] pos)) none rp) (zu C sp E E1 iT):=by
 intro aa s σ H D I h;rw[arm_exec_Raise];refine wpAny_bind (wpAny_standAt (Bx.Em (I.ok.hd hc) (wpAny_bind (aF ?_ fun v s3 h3=>wpAny_bind (wpAny_standAt (wpAny_pure h3))))));refine wpAny_Call_Name_kw (jR I hg hm ?_ bC);obtain⟨hz,q⟩:=h;refine PySem.W.callWith_K0 I.bN M.cl.kp ?_;exact yx (us:=[]) (R:=fun a H2=> ∃d,H2 a=some (XO a C (some d))/\E (.ref C) (some d) (cut H2 a)) M F hr hb hx I .nil (Nat.zero_le _) q fun a H2 s2 hs I2 R=>En T M I.lS hs I2 R
end
structure zR(K:FG)(C:Addr)(m:Str)(f:Addr):Prop where
 rd:PySem.W.readsIn K C (.type "type")=true
 WI:PySem.W.findCls K (.ref C) (.type "type") m=some (.val (.ref f))
 ga:PySem.W.specialIn K (.ref C) "__getattribute__"=some (some (.builtin "type.__getattribute__"))
 kp:PySem.W.keepIn K (.ref f)=true
theorem gd{X:Cx}{CX:fS}{k:Nat}{f C:Addr}{fd:FuncData}{ps:List Str}{sp:Sp}{E:XK}{x m:Str}{p pos cJ:Pos}{e:Expr}{es:List Expr}{t:TA}{pl:Sem Bool}(c:zR X.K C m f)(F:aB X.prog X.w X.K X.mg X.base CX k f fd ps sp)(hr:az k X.A)
  (hg:Gl X x) (hm:X.mg x=some (.ref C)) (hb:Binds X.K fd ps []) (hx:Passes CX X E) (ha:PA X (e::es) t) (bC:(x==("__debug__":Str))=false:=by decide)
  (bL:starEach (e::es) X.env=(false,eval e X.env)::starEach es X.env:=by rfl) (cz:(backTo pos (starEach es X.env)).any (·.1)=false:=by rfl)
  (ht:eval (.Call (.Attribute (.Name x p) m cJ) (e::es) [] pos) X.env=(do
   let ov <-eval (.Name x p) X.env
   standAt cJ.atName
   let(f,first) <-holding [ov] (getMethod ov m pl)
   callWith pos f first (backTo pos (starEach (e::es) X.env)) (backToKw pos (keywordEach [] X.env))):=by rfl):
  PE X (.Call (.Attribute (.Name x p) m cJ) (e::es) [] pos) (mY sp [] E t):=by
 intro aa s σ H Q I h;refine PySem.W.methodCall_KW (pl:=pl) (jR I hg hm (PySem.W.method_cls I.bN c.ga (PySem.W.cls_value I.bN c.rd c.WI rfl ?_)) bC) ht;have I':=I.tok (s.toks+1);refine PySem.W.callWith_K (first:=[]) (h₀:=X.base) I.ok.mod.l7 c.kp (aF (ha pos aa _ σ H _ I' h) fun us s2 ⟨vs,H2,I2,r,q2⟩=>⟨I2.bN,?_⟩) bL cz;exact vQ F hr hb .nil hx I2 r q2
section
variable{X:Cx}{aa:List (Addr×Obj)}{σ:St}{H:Hp}{s:Shared}{n:Nat}{h':Heap}
theorem Inv.lE(I:Inv X aa σ H s)(cv:eS X aa n)(k:Bx.gi (cK X.stack) (Pk n H) s.heap h'):Inv X aa σ H {s with heap:=h'}:=by
 have any: ∀b o,b<n->s.heap.get? b=some o-> ∃sl,h'.get? b=some {o with slots:=sl}:=fun b o hb e=>by
  by_cases m:b∈cK X.stack
  ·exact k.slot b o m e
  ·exact⟨o.slots,k.keep b o (.inl hb) m e⟩
 have sj: ∀x c,X.env.cells.lookup x=some c-> ∀v,s.heap.IsCell c v->h'.IsCell c v:=fun x c e v ⟨o,ho,hd⟩=>by
  obtain⟨sl,q⟩:=any c o (cv.jw x c e) ho;exact⟨_,q,hd⟩
 have Vq: ∀b,b<X.dF.heap.objs.size->b∉X.fs->b∉cK X.stack:=fun b hb hn m=>by
  rcases List.mem_cons.mp (I.pH b m) with z |z
  ·rw[z] at hb;exact absurd (Nat.lt_of_lt_of_le hb I.ok.above) (Nat.lt_irrefl _)
  ·exact hn z
 refine⟨I.ok,I.os,I.bare,⟨fun b o e m hb hx=>?_,fun b o e m hb hx=>?_,I.base.free,fun b o e hx=>?_,I.base.ic,I.base.gm,I.base.ib⟩,?_,fun x c e=>?_,I.free,I.eB,fun p hp=>?_,fun b u e=>?_,I.len⟩
 ·exact k.keep b o (.inl (Nat.lt_of_lt_of_le (Heap.lt_size e) cv.s0)) (Vq b (Heap.lt_size e) hb) (I.base.keep b o e m hb hx)
 ·obtain⟨sl,e1⟩:=I.base.slot b o e m hb hx;obtain⟨nL,e2⟩:=any b _ (Nat.lt_of_lt_of_le (Heap.lt_size e) cv.s0) e1;exact⟨nL,e2⟩
 ·obtain⟨o',e1⟩:=I.base.there b o e hx;obtain⟨nL,e2⟩:=any b _ (Nat.lt_of_lt_of_le (Heap.lt_size e) cv.s0) e1;exact⟨_,e2⟩
 ·obtain⟨m,⟨o,es,ep,ho,r⟩,hl⟩:=I.loc;obtain⟨sl,q⟩:=any _ o cv.loc ho;refine⟨m,⟨_,es,ep,q,r⟩,fun i x v e1 e2 e3=>?_⟩;obtain⟨u,ru,l⟩:=hl i x v e1 e2 e3;refine⟨u,ru,?_⟩;rcases l with l |⟨kk,c,e,z⟩
  ·exact .inl l
  ·exact .inr ⟨kk,c,e,sj x c e _ z⟩
 ·obtain⟨v,z⟩:=I.cell x c e;exact⟨v,sj x c e v z⟩
 ·obtain⟨e,f,ne,nf,d⟩:=I.pin p hp;exact⟨k.keep p.1 p.2 (.inl (cv.pin p hp)) (fun m=>(List.mem_cons.mp (I.pH _ m)).elim ne nf) e,f,ne,nf,d⟩
 ·refine(I.aw b u e).ia (fun c v hc r=>?_) (fun _ q=>q) fun _ _ q=>q;have tG:H c≠none:=by
   rcases hc with rfl |hc
   ·rw[e];simp
   ·rw[hc];simp
  exact k.keep c v (.inr tG) (fun m=>tG (I.vF c m)) r
theorem Inv.Vf{a:Addr}{o:HO}(I:Inv X aa σ H s)(cv:eS X aa n)(hn:n<=a)(ha:H a=none)(hf:a∉cK X.stack)(new:bG X.prog X.w (upd H a o) s.heap a o):Inv X aa σ (upd H a o) s:=by
 have ne: ∀b,b<n->b≠a:=fun b hb z=>by rw[z] at hb;exact absurd (Nat.lt_of_lt_of_le hb hn) (Nat.lt_irrefl _)
 refine⟨I.ok,I.os,I.bare,⟨I.base.keep,I.base.slot,fun b ob e m hx=>?_,I.base.there,fun b xs e=>?_,fun b ob u e=>?_,fun b ps e=>?_⟩,I.loc,I.cell,?_,fun x c e=>?_,fun p hp=>?_,fun b u e=>?_,I.len⟩
 ·rw[aj (ne b (Nat.lt_of_lt_of_le (Heap.lt_size e) cv.s0))];exact I.base.free b ob e m hx
 ·have q:=I.base.ic b xs e;rw[aj (aR q ha)];exact q
 ·have q:=I.base.gm b ob u e;rw[aj (aR q ha)];exact q
 ·obtain⟨more,q⟩:=I.base.ib b ps e;exact⟨more,by rw[aj (aR q ha)];exact q⟩
 ·rw[aj (ne _ cv.loc)];exact I.free
 ·rw[aj (ne _ (cv.jw x c e))];exact I.eB x c e
 ·obtain⟨e,f,r⟩:=I.pin p hp;exact⟨e,by rw[aj (ne _ (cv.pin p hp))];exact f,r⟩
 ·by_cases hb:b=a
  ·subst hb;rw[au] at e;cases e;exact new
  ·rw[aj hb] at e;exact(I.aw b u e).ia (fun _ _ _ q=>q) (fun c q=>by rw[aj (aR q ha)];exact q) fun c xs q=>by rw[aj (aR q ha)];exact q
theorem Inv.gone{i:Nat}{x:Str}{v:Option Value}(I:Inv X aa σ H s)(hN:X.N.Nodup)(hi:X.N[i]? =some x)(hx:X.env.scope.names.lookup x=some .local){t':Nat}
  (hn: ∀m,s.heap.Ns X.env.locals m->h'.Ns X.env.locals (fun y=>if y=x then v else m y)) (hs:Heap.SameBut X.env.locals s.heap h'):Inv X aa (σ.set i none) H {s with heap:=h',toks:=t'}:=by
 have iW:=I.iW;refine⟨I.ok,I.os,I.bare,⟨fun b o e m hb hx=>?_,fun b o e m hb hx=>?_,I.base.free,fun b o e hx=>?_,I.base.ic,I.base.gm,I.base.ib⟩,?_,fun y c e=>?_,I.free,I.eB,fun p hp=>?_,fun b u e=>?_,by rw[List.length_set];exact I.len⟩
 ·exact(hs.2 b (Nat.ne_of_lt (Nat.lt_of_lt_of_le (Heap.lt_size e) I.ok.above))).trans (I.base.keep b o e m hb hx)
 ·obtain⟨sl,e1⟩:=I.base.slot b o e m hb hx;exact⟨sl,(hs.2 b (Nat.ne_of_lt (Nat.lt_of_lt_of_le (Heap.lt_size e) I.ok.above))).trans e1⟩
 ·obtain⟨o',e1⟩:=I.base.there b o e hx;exact⟨o',(hs.2 b (Nat.ne_of_lt (Nat.lt_of_lt_of_le (Heap.lt_size e) I.ok.above))).trans e1⟩
 ·obtain⟨m,hm,hl⟩:=I.loc;refine⟨_,hn m hm,fun j y w e1 e2 e3=>?_⟩;have hj:j≠i:=fun z=>by
   subst z
   by_cases hl:j<σ.length
   ·rw[List.getElem?_set_self hl] at e2;cases e2
   ·rw[List.getElem?_eq_none (by rw[List.length_set];omega)] at e2;cases e2
  rw[List.getElem?_set_ne (Ne.symm hj)] at e2;obtain⟨u,ru,q⟩:=hl j y w e1 e2 e3;refine⟨u,ru,?_⟩;rcases q with⟨kk,e⟩ |⟨kk,c,e,z⟩
  ·refine .inl ⟨kk,?_⟩;have:y≠x:=fun e=>hj (vi hN e1 (e▸hi));simp [this,e]
  ·exact .inr ⟨kk,c,e,z.sameBut hs (iW y c e)⟩
 ·obtain⟨w',z⟩:=I.cell y c e;exact⟨w',z.sameBut hs (iW y c e)⟩
 ·obtain⟨e,f,ne,nf,d⟩:=I.pin p hp;exact⟨(hs.2 p.1 ne).trans e,f,ne,nf,d⟩
 ·refine(I.aw b u e).ia (fun c v hc r=>(hs.2 c ?_).trans r) (fun _ q=>q) fun _ _ q=>q;intro z;rcases hc with rfl |hc
  ·rw[z,I.free] at e;cases e
  ·rw[z,I.free] at hc;cases hc
end
abbrev Cx.tr(X:Cx)(pn:List (Addr×Obj))(E:Value->Shared->Prop):Cx:={X with pn:=pn,xe:=E}
theorem Inv.tr{X:Cx}{aa:List (Addr×Obj)}{σ:St}{H:Hp}{s:Shared}(I:Inv X aa σ H s)(E:Value->Shared->Prop):Inv (X.tr (X.pn++aa) E) [] σ H s:=
 ⟨⟨I.ok.mod,I.ok.kind,I.ok.glob,I.ok.blt,I.ok.above,I.ok.inj,I.ok.has,I.ok.lR,I.ok.hd,I.ok.frames,I.ok.fk,I.ok.km,I.ok.bs,I.ok.ig,I.ok.lO,I.ok.j7,I.ok.fA,I.ok.jy⟩,I.os,I.bare,I.base,I.loc,I.cell,I.free,I.eB,fun p hp=>I.pin p (by simpa using hp),I.aw,I.len⟩
theorem Inv.m9{X:Cx}{aa lH:List (Addr×Obj)}{σ:St}{H:Hp}{s:Shared}{E:Value->Shared->Prop}(I:Inv (X.tr (X.pn++aa) E) lH σ H s):Inv X aa σ H s:=
 ⟨⟨I.ok.mod,I.ok.kind,I.ok.glob,I.ok.blt,I.ok.above,I.ok.inj,I.ok.has,I.ok.lR,I.ok.hd,I.ok.frames,I.ok.fk,I.ok.km,I.ok.bs,I.ok.ig,I.ok.lO,I.ok.j7,I.ok.fA,I.ok.jy⟩,I.os,I.bare,I.base,I.loc,I.cell,I.free,I.eB,fun p hp=>I.pin p (List.mem_append_left _ hp),I.aw,I.len⟩
theorem eS.m9{X:Cx}{aa lH:List (Addr×Obj)}{n:Nat}{E:Value->Shared->Prop}(c:eS (X.tr (X.pn++aa) E) lH n):eS X aa n:=⟨c.s0,c.loc,c.jw,fun p hp=>c.pin p (List.mem_append_left _ hp)⟩
abbrev Cx.bE(X:Cx)(a:Addr)(E:Value->Shared->Prop):Cx:={X with A:=X.A.mark (some (.ref a)),calm:=false,xe:=E}
theorem Inv.bE{X:Cx}{aa:List (Addr×Obj)}{σ:St}{H:Hp}{s:Shared}(I:Inv X aa σ H s)(a:Addr)(E:Value->Shared->Prop):Inv (X.bE a E) aa σ H s:=
 ⟨⟨I.ok.mod,I.ok.kind,I.ok.glob,I.ok.blt,I.ok.above,I.ok.inj,I.ok.has,I.ok.lR,fun z=>absurd z (by simp),I.ok.frames,I.ok.fk,I.ok.km,I.ok.bs,I.ok.ig,I.ok.lO,I.ok.j7,I.ok.fA,I.ok.jy⟩,I.os,I.bare,I.base,I.loc,I.cell,I.free,I.eB,I.pin,I.aw,I.len⟩
theorem Inv.zP{X:Cx}{aa:List (Addr×Obj)}{σ:St}{H:Hp}{s:Shared}{a:Addr}{E:Value->Shared->Prop}(ok:X.Ok)(I:Inv (X.bE a E) aa σ H s):Inv X aa σ H s:=
 ⟨ok,I.os,I.bare,I.base,I.loc,I.cell,I.free,I.eB,I.pin,I.aw,I.len⟩
theorem az.mark{k:Nat}{A:Around}(r:az k A)(hk:k<=4)(h:Option Value):az k (A.mark h):=⟨fun q=>absurd q (by omega),r.dp,r.un⟩
end L2
namespace Bx
open PySem PySem.W PyProof.Rows
theorem Oe{M:Model}{A:Around}{E:Value->Shared->Prop}{s:Shared}{e C D:Addr}{oe:Obj}{bm bd:List Value}{Q:Bool->Shared->Prop}(hC:XC s.heap C bm)(hD:XC s.heap D bd)(he:s.heap.get? e=some oe)(z9:oe.cls= .ref C)
  (m8:(Value.ref C::bm).contains (.ref D)=true) (hq:Q true s):wpAny M A (excMatches (.ref e) (.ref D)) Q E s:=by
 obtain⟨⟨nm,qn,N,bs,sn,sub,ab,ni,dd,k0,k1,k2,k3,k5,hC⟩,jz⟩:=hC;obtain⟨⟨Zd,Ze,N',YF,Zh,Yz,YA,Yu,sZ,j0,j1,j2,j3,j5,hD⟩,wL⟩:=hD;have dB:(Value.ref D::bd).contains (.type "BaseException")=true:=by rw[List.contains_cons,jb (b:=true) (by decide +kernel) bd wL];rfl
 have f:=tc_notTuple;obtain⟨hp,g,dr,tk,os⟩:=s;unfold excMatches
 repeat (first |(with_reducible refine wpAny_loadPart_at he ?_;rw[z9]) |with_reducible refine wpAny_loadPart_at hD ?_ |(with_reducible refine wpAny_isSubtype_exc hD ?_;rw[dB]) |(with_reducible refine wpAny_isSubtype_exc hC ?_;rw[m8]) |wp_step)
 exact hq
end Bx
namespace L2
open PySem PySem.Spec PyProof.Rows
def subIn(K:FG)(C D:Addr):Bool:=(PySem.W.clsIn K C).any fun cd=>cd.mro.contains (.ref D)
def pQ(X:Cx)(i:Nat)(a:Addr):St:=(List.replicate X.N.length none).set i (some (.ref a))
inductive K5(K:FG)(cs D:Addr)(X:Cx)(i:Nat)(th:Addr->TS)(rt:VK)(cv:Value)(dv:Option Addr)(H':Hp):Prop
 |mk C d:cv= .ref C->dv=some d->fB K C->subIn K C D=true->(∀a,H' a=none->th a {nx:=fun _ _=>False,rt:=rt} (pQ X i a) (upd H' a (XH cs a C d)))->K5 K cs D X i th rt cv dv H'
def V1(K:FG)(cs D:Addr)(X:Cx)(i:Nat)(tb:XK->TS)(th:Addr->TS):TS:=fun Dn σ H=>tb (K5 K cs D X i th Dn.rt) Dn σ H
section
variable{X:Cx}{cs D:Addr}{E:XK}{fz zN:List Stmt}{b₀:Stmt}{cx n:Str}{np sE pos:Pos}{i:Nat}{tb:XK->TS}{th:Addr->TS}
theorem Jh{h:Heap}{a:Addr}{m m':Str->Option Value}(x:h.Ns a m)(y:h.Ns a m'):m=m':=by
 obtain⟨o,es,ep,e,d,_,r⟩:=x;obtain⟨o',wI,wH,e',d',_,r'⟩:=y;rw[e] at e';cases e';rw[d] at d';cases d'
 funext z
 rw[<-r z,<-r' z]
theorem SO{a:Addr}(T:fT cs X E)(ok:X.Ok)(bL:X.stack=X.env::X.outer/\X.env.frame=some X.env.locals)(Ac:PassesOwnAt (model X.prog X.w) (X.A.mark (some (.ref a))) X.A X.env X.xe)(hN:X.N.Nodup)(hi:X.N[i]? =some n)(hl:X.env.scope.names.lookup n=some .local):
  fT cs (X.bE a (fun x s₃=>AsSuiteRaised (model X.prog X.w) (X.A.mark (some (.ref a))) X.env n sE (notedBy (model X.prog X.w) (X.A.mark (some (.ref a))) X.env fun x s'=>cameBackBy (model X.prog X.w) X.A X.env X.xe x s') x s₃)) E:=by
 intro aa σ H s a' C d m I cv x q;have I:Inv X aa σ H s:=Inv.zP ok I;have cv:eS X aa m:=⟨cv.s0,cv.loc,cv.jw,cv.pin⟩;have fr:(X.A.mark (some (.ref a))).frames=some (X.env::X.outer):=by
  have e:=I.ok.frames;rw[bL.1] at e;exact e
 have fk: ∀{σ:St}{s':Shared},Inv X aa σ H s'->s'.heap.FunFrames X.base (X.env::X.outer):=fun J=>by
  have e:=J.stack
  rwa [bL.1] at e
 have x0:Bx.lJ (fun b=>Pk m H b/\b<s.heap.objs.size) cs s.heap a' C d:=x.weak fun b _ p=>p.1;show wpAny _ _ (noteFrame (.ref a') X.env) _ _ s;refine Bx.vZ fr (fk I) bL.2 (fun b p=>p.2) x0 fun h1 x1 k1 z1=>?_;have XE:Bx.gi (cK X.stack) (Pk m H) s.heap h1:=by
  rw[bL.1];exact⟨fun b o p nb e=>k1.keep b o ⟨p,Heap.lt_size e⟩ nb e,k1.slot⟩
 have I1:=I.lE cv XE;obtain⟨mm,fW,_⟩:=id I1.loc;have hp:(X.env.scope.kind== .class || (X.env.scope.kind== .module&&X.env.locals != X.env.globals))=false:=by rw[I.ok.kind];rfl
 refine wpAny_nameGoes_keeps (s:={s with heap:=h1}) hl fW hp fun h2 v iZ aY=>?_;have I2:Inv X aa (σ.set i none) H {s with heap:=h2,toks:=s.toks+1}:=I1.gone (v:=v) hN hi hl (t':=s.toks+1) (fun m3 h3=>by
  have e:m3=mm:=Jh h3 fW;rw[e];exact iZ) aY
 have pl:Pk m H X.env.locals/\X.env.locals<s.heap.objs.size:=⟨.inl cv.loc,I.lt⟩;have x2:Bx.gj (fun b=>Pk m H b/\b<s.heap.objs.size) cs h2 a' C d:=by
  obtain⟨p,vs,e1,e2,e3,T,oT,ts,e4,p5,e6,e7,e8,e9⟩:=x1;exact⟨p,vs,(aY.2 a' fun z=>p (z▸pl)).trans e1,e2,e3,T,oT,ts,e4,p5,e6,(aY.2 T fun z=>p5 (z▸pl)).trans e7,e8,e9⟩
 unfold PySem.passOn;obtain⟨p,vs,e1,e2,e3,TT,oT,ts,e4,r⟩:=id x2;refine wpAny_bind (wpAny_field (s:={s with heap:=h2,toks:=s.toks+1}) e1 rfl e4 ?_);rw[if_neg (by simp)];refine wpAny_bind (Bx.rQ (s:={s with heap:=h2,toks:=s.toks+1}) x2 (cK X.stack) (fun b mb=>?_) fun h3 x3 k3 z3=>?_)
 ·rw[bL.1] at mb;obtain⟨_,o,eo,ho⟩:=(fk I2).mem mb;exact⟨o,eo,ho⟩
 ·have Yo:Bx.gj (Pk (min m s.heap.objs.size) H) cs h3 a' C d:=x3.weak fun b _ p=>by
   rcases p with p |p
   ·exact⟨.inl (Nat.lt_min.mp p).1,(Nat.lt_min.mp p).2⟩
   ·refine⟨.inr p,?_⟩;cases e:H b with
    |none=>exact absurd e p
    |some o=>exact I.aw.lt e
  have Lc:eS X aa (min m s.heap.objs.size):=by
   have c2:=I.lS;exact⟨Nat.le_min.mpr ⟨cv.s0,c2.s0⟩,Nat.lt_min.mpr ⟨cv.loc,c2.loc⟩,fun x c e=>Nat.lt_min.mpr ⟨cv.jw x c e,c2.jw x c e⟩,fun p hp=>Nat.lt_min.mpr ⟨cv.pin p hp,c2.pin p hp⟩⟩
  have I3:Inv X aa (σ.set i none) H {s with heap:=h3,toks:=s.toks+1}:=I2.lE Lc ⟨fun b o p nb e=>k3.keep b o (by
   rcases p with p |p
   ·exact⟨.inl (Nat.lt_min.mp p).1,(Nat.lt_min.mp p).2⟩
   ·refine⟨.inr p,?_⟩;cases e:H b with
    |none=>exact absurd e p
    |some o=>exact I.aw.lt e) nb e,k3.slot⟩
  exact wpAny_throw (Ac _ _ (T aa _ H _ a' C d _ I3 Lc (.inr Yo) q))
theorem Jm{aa:List (Addr×Obj)}{σ:St}{H:Hp}{s:Shared}{m:Nat}(I:Inv X aa σ H s)(cv:eS X aa m):eS X aa (min m s.heap.objs.size)/\(∀b,Pk (min m s.heap.objs.size) H b->b<s.heap.objs.size)/\ ∀b,Pk (min m s.heap.objs.size) H b->Pk m H b:=by
 have c2:=I.lS;refine⟨⟨Nat.le_min.mpr ⟨cv.s0,c2.s0⟩,Nat.lt_min.mpr ⟨cv.loc,c2.loc⟩,fun x c e=>Nat.lt_min.mpr ⟨cv.jw x c e,c2.jw x c e⟩,fun p hp=>Nat.lt_min.mpr ⟨cv.pin p hp,c2.pin p hp⟩⟩,fun b p=>?_,fun b p=>?_⟩
 ·rcases p with p |p
  ·exact(Nat.lt_min.mp p).2
  ·cases e:H b with
   |none=>exact absurd e p
   |some o=>exact I.aw.lt e
 ·rcases p with p |p
  ·exact .inl (Nat.lt_min.mp p).1
  ·exact .inr p
theorem vN(T:fT cs X E)(bL:X.stack=X.env::X.outer/\X.env.frame=some X.env.locals)(Ac: ∀a,PassesOwnAt (model X.prog X.w) (X.A.mark (some (.ref a))) X.A X.env X.xe)(hN:X.N.Nodup)(hi:X.N[i]? =some n)(hl:X.env.scope.names.lookup n=some .local)
  (hg:Gl X cx) (hm:X.mg cx=some (.ref D)) (hD:fB X.K D)
  (hb: ∀pn nR E1,fT cs (X.tr pn nR) E1->PassesOwn (model X.prog X.w) X.A X.env nR->gw (X.tr pn nR) fz (tb E1))
  (hh: ∀a qx,fT cs (X.bE a qx) E->gw (X.bE a qx) (b₀::zN) (th a)) (bC:(cx==("__debug__":Str))=false:=by decide):
  PS X (.Try fz [.ExceptHandler (some (.Name cx np)) (some n) (b₀::zN) sE] [] [] pos) (V1 X.K cs D X i tb th):=by
 intro aa s σ H Dn I h;have ok:=I.ok;refine wpAny_Try_except (wpAny_mono (hb (X.pn++aa) (fun e s₁=>wpAny (model X.prog X.w) X.A (noteFrame e X.env) (fun _ s₂=>wpAny (model X.prog X.w) X.A (setFlight e none) (fun _ s₃=>wpAny (model X.prog X.w) X.A (handleBy e X.env [.ExceptHandler (some (.Name cx np)) (some n) (b₀::zN) sE]) (SP X aa Dn) X.xe s₃) X.xe s₂) X.xe s₁) _ ?_ PassesOwn.looking [] s σ H Dn (I.tr _) h) (fun f s1 q=>?_) fun e s1 q=>q)
 ·rintro lH σ1 H1 s1 a C d m I1 cv x ⟨C',d',e1,e2,xc,m8,Xv⟩;cases e1;cases e2;have I1:Inv X aa σ1 H1 s1:=I1.m9;obtain⟨cv,hP,hw⟩:=Jm I1 (eS.m9 cv);have x:=x.weak fun b _ p=>hw b p;generalize min m s1.heap.objs.size=m at cv hP x;have fr:X.A.frames=some (X.env::X.outer):=by
   have e:=ok.frames
   rwa [bL.1] at e
  have fk: ∀{σ:St}{H:Hp}{s':Shared},Inv X aa σ H s'->s'.heap.FunFrames X.base (X.env::X.outer):=fun J=>by
   have e:=J.stack
   rwa [bL.1] at e
  have tj: ∀{σ:St}{H:Hp}{s':Shared},Inv X aa σ H s'-> ∀b∈cK X.stack,∃o,s'.heap.get? b=some o/\ ∀vs,o.data≠ .fields vs:=fun J b mb=>by
   rw[bL.1] at mb;exact((fk J).mem mb).2
  refine Bx.vZ fr (fk I1) bL.2 hP x fun h2 x2 k2 z2=>?_;have I2:=I1.lE cv (by rw[bL.1];exact k2);refine Bx.rQ (s:={s1 with heap:=h2}) x2 (cK X.stack) (tj I2) fun h3 x3 k3 z3=>?_;have I3:=I2.lE cv k3;obtain⟨YB,Wf,YC,Wg,VR,-⟩:=Bx.jY I3.bN xc.xc;obtain⟨YE,YH,YD,-⟩:=Bx.jY I3.bN hD.xc;obtain⟨pa,Zj,Wo,YJ,YK,r3⟩:=id x3;refine wpAny_handleBy_cons (codeAny_handlers_test (jR (X:=X.bE a fun _ _=>False) (I3.bE a _) hg hm ?_ bC)) (by intro q;cases q);refine Bx.Oe YC YD Wo rfl ?_ (codeAny_handlers_suite_as ?_)
  ·unfold subIn at m8;rw[Wg] at m8;have q:Wf.mro.contains (.ref D)=true:=m8
   rwa [VR] at q
  refine Bx.rQ (s:={s1 with heap:=h3}) x3 (cK X.stack) (tj I3) fun h4 x4 k4 z4=>?_;have I4:=I3.lE cv k4;obtain⟨A_,Ml,Wq,Wr,Ws,r4⟩:=id x4;have nP: ∀b,b<m->b≠a:=fun b hb z=>A_ (.inl (z▸hb));refine yA (X:=X.bE a fun _ _=>False) (v:=V.ref a) (I4.bE a _) hN hi (.inl hl) rfl (fun s5 I5 ⟨b5,Yd,WX⟩=>?_) (.inr hl);have I5:Inv X aa (σ1.set i (some (.ref a))) H1 s5:=Inv.zP ok I5;have XZ:a≠b5:=by
   rcases WX with z |z
   ·rw[z];exact Ne.symm (nP _ cv.loc)
   ·exact Ne.symm (nP _ (cv.jw n b5 z))
  have o5:s5.heap.get? a=some {cls:= .ref C,dict:=some d,data:= .fields Ml}:=(Yd.2 a XZ).trans Wq;have ha:H1 a=none:=by
   cases e:H1 a with
   |none=>rfl
   |some o=>exact absurd (.inr (by rw[e];simp)) A_
  have ma:m<=a:=Nat.le_of_not_lt fun z=>A_ (.inl z);have fa:a∉cK X.stack:=fun z=>by
   obtain⟨o,eo,ho⟩:=tj I5 a z;rw[o5] at eo;cases eo;exact ho Ml rfl
  have I6:=I5.Vf (o:=XH cs a C d) cv ma ha fa (XH.ok o5 Wr Ws);have I7:Inv X aa (pQ X i a) (upd H1 a (XH cs a C d)) s5:=I6.weak (by unfold pQ;rw[List.length_set,List.length_set,List.length_replicate];exact I1.len.symm) fun j v e=>by
   have AL:j=i/\i<σ1.length:=by
    unfold pQ at e
    by_cases z:i=j
    ·subst z;refine⟨rfl,?_⟩;have bP:=(List.getElem?_eq_some_iff.mp hi).1;rw[I1.len];exact bP
    ·rw[List.getElem?_set_ne z,List.getElem?_replicate] at e
     split at e<;>cases e
   obtain⟨rfl,aW⟩:=AL;unfold pQ at e;rw[List.getElem?_set_self (by rw[List.length_replicate,<-I1.len];exact aW)] at e;rw[List.getElem?_set_self aW];exact e
  refine wpAny_mono (hh a _ (SO T ok bL (Ac a) hN hi hl) aa s5 (pQ X i a) _ _ (I7.bE a _) (Xv a ha)) (fun f s6 q6=>?_) fun y s6 q6=>q6;cases f with
  |next=>obtain⟨_,_,_,z⟩:=q6;exact False.elim z
  |brk=>obtain⟨_,_,_,z⟩:=q6;exact False.elim z
  |cont=>obtain⟨_,_,_,z⟩:=q6;exact False.elim z
  |ret u=>
   obtain⟨v,σ6,H6,wq,rv,qv⟩:=q6;have wq:Inv X aa σ6 H6 s6:=Inv.zP ok wq;obtain⟨mm,fW,_⟩:=id wq.loc;have hp:(X.env.scope.kind== .class || (X.env.scope.kind== .module&&X.env.locals != X.env.globals))=false:=by rw[ok.kind];rfl
   refine wpAny_nameGoes_keeps hl fW hp fun h7 w Xh tY=>?_;exact⟨v,_,H6,wq.gone (v:=w) hN hi hl (t':=s6.toks+1) (fun m3 h3=>by rw[Jh h3 fW];exact Xh) tY,rv,qv⟩
 ·cases f with
  |next=>obtain⟨σ',H',I',q⟩:=q;exact wpAny_execs_nil ⟨σ',H',I'.m9,q⟩
  |brk=>obtain⟨σ',H',I',q⟩:=q;exact⟨σ',H',I'.m9,q⟩
  |cont=>obtain⟨σ',H',I',q⟩:=q;exact⟨σ',H',I'.m9,q⟩
  |ret u=>obtain⟨v,σ',H',I',r,q⟩:=q;exact⟨v,σ',H',I'.m9,r,q⟩
end
def PU(C cs hx:Addr)(sp:Sp)(E E1:XK):List V->Hp->Prop:=fun vs H1=>vs.length<=sizeLine/\ ∀a,H1 a=none->sp (.ref a::vs) (upd H1 a (XO a C none)) (fun v H2=>v= .aN/\
 ∃d C' d',H2 a=some (XO a C (some d))/\H2 hx=some (XH cs hx C' d')/\C'≠cs/\E (.ref C) (some d) (cut H2 a)) E1
def Ss(C cs hx:Addr)(sp:Sp)(E E1:XK)(t:TA):TS:=fun _ σ H=>t σ H (PU C cs hx sp E E1)
section
variable{X:Cx}{CX:fS}{k:Nat}{f C hx:Addr}{fd:FuncData}{ps:List Str}{sp:Sp}{E:XK}{x:Str}{p pos cp:Pos}{e:Expr}{es:List Expr}{t:TA}{cs:Addr}{E1:XK}{rp:Pos}{j:Nat}
theorem E9(T:fT cs X E)(hh:X.A.handled=some (.ref hx))(hC:C=cs)(M:pX X.K C f)(F:aB X.prog X.w X.K X.mg X.base CX k f fd ps sp)(hr:az (k+1) X.A)(hg:Gl X x)(hm:X.mg x=some (.ref C))(hb:Binds X.K fd ps [])(hp:Passes CX X E1)
  (ha:PA X (e::es) t) (bC:(x==("__debug__":Str))=false:=by decide) (he:starEach (e::es) X.env=(false,eval e X.env)::starEach es X.env:=by rfl) (cz:(backTo pos (starEach es X.env)).any (·.1)=false:=by rfl):
  PS X (.Raise (some (.Call (.Name x p) (e::es) [] pos)) (some (.Constant .none j cp)) rp) (Ss C cs hx sp E E1 t):=by
 intro aa s σ H D I h;rw[arm_exec_Raise];refine wpAny_bind (wpAny_standAt (Bx.O5 hh (fun Q s q=>wpAny_bind (Constant_none (wpAny_bind (wpAny_standAt (wpAny_pure q))))) (wpAny_bind (aF ?_ fun v s3 h3=>wpAny_bind (wpAny_standAt (wpAny_pure h3))))));refine wpAny_Call_Name_kw (jR I hg hm ?_ bC);refine PySem.W.callWith_K (h₀:=X.base) I.ok.mod.l7 M.cl.kp (aF (ha pos aa s σ H _ I h) fun us s1 ⟨vs,H1,I1,r,hz,q⟩=>⟨I1.bN,?_⟩) he cz;refine yx (R:=fun a H2=> ∃d C' d',H2 a=some (XO a C (some d))/\H2 hx=some (XH cs hx C' d')/\C'≠cs/\E (.ref C) (some d) (cut H2 a)) M F hr hb hp I1 r (by show us.length<=_;rw[<-r.length];exact hz) q fun a H2 s2 hs I2 R=>?_;obtain⟨d,C',d',ea,eh,bo,qE⟩:=R;obtain⟨⟨tt,ho⟩,-,-⟩:=(show bG X.prog X.w H2 s2.heap a (XO a C (some d)) from I2.aw a _ ea);obtain⟨⟨ws,hw,Y7,AZ⟩,-,-⟩:=(show bG X.prog X.w H2 s2.heap hx (XH cs hx C' d') from I2.aw hx _ eh);obtain⟨bm,cd,Y,-,-,-⟩:=Bx.jY I2.bN M.cl.xc;have X1:hx≠a:=fun z=>by
  rw[z,ho] at hw
  injection hw with hw
  injection hw with h1 h2 h3
  have e1:C=C':=by injection h1
  exact bo (e1.symm.trans hC)
 refine⟨a,C,bm,_,_,ws,_,rfl,Y,ho,rfl,rfl,X1,hw,rfl,AZ bo,fun h' Yl e1 e2 e3 e4=>?_⟩;have Ic:=I2.cut ea;have nP: ¬Pk s1.heap.objs.size (cut H2 a) a:=fun z=>by
  rcases z with z |z
  ·exact absurd (Nat.lt_of_lt_of_le z hs) (Nat.lt_irrefl _)
  ·exact z vd
 have I3:=Ic.lE (n:=s1.heap.objs.size) (h':=h') I1.lS ⟨fun b o pb _ eb=>(e4 b fun z=>nP (z▸pb)).trans eb,fun b o mb eb=>⟨o.slots,(e4 b fun z=>by
  obtain⟨_,o',eo,nz⟩:=Ic.stack.mem mb;rw[z,ho] at eo;cases eo;exact nz _ rfl).trans eb⟩⟩
 exact T aa σ (cut H2 a) _ a C d _ I3 I1.lS (.inl ⟨nP,Yl,e1,e2,fun z=>absurd hC z,e3⟩) qE
end
def Bo(X:Cx)(C:Addr)(ck:Env):Value->Shared->Prop:=notedBy (model X.prog X.w) X.A ck (fun x s'=> ∃m,s'.heap.Ns C m/\ ∀h',Heap.SameBut C s'.heap h'-> ∀c:Env,c.locals=C->wpAny (model X.prog X.w) X.A (PySem.passOn "comprehension.variables-let-go" x c:Sem Value) (fun _ _=>False) X.xe {s' with heap:=h'})
section
variable{X:Cx}
theorem Qw{aa:List (Addr×Obj)}{s:Shared}{σ:St}{H:Hp}{Q:VK}{bZ tg iter:Expr}{cQ:List Expr}{ah:Scope}{own:List (Str×Nat)}{pos dj:Pos}{wi:TI}{g:TG}{tt:TT}{te:TE}{use:Option (Value->Sem Unit)}{Qf:Value->Shared->Prop}
  (hc:X.calm=true) (hN:X.N.Nodup) (I:Inv X aa σ H s) (hi:PI X tg iter wi) (ok:mL X.N X.env.scope ah own)
  (hg: ∀(s:Shared)(H:Hp)(C:Addr)(cl:List (Str×Addr))(fp:List Addr),PG (X.b9 s H ah (compEnvC ah cl C X.env) fp) tg g) (ht: ∀(s:Shared)(H:Hp)(C:Addr)(cl:List (Str×Addr))(fp:List Addr),ng (X.b9 s H ah (compEnvC ah cl C X.env) fp) cQ tt)
  (he: ∀(s:Shared)(H:Hp)(C:Addr)(cl:List (Str×Addr))(fp:List Addr),(∃aa σ,Inv X aa σ H s/\ ∀b∈fp,eC X aa H b)->C=s.heap.objs.size->PE ((X.b9 s H ah (compEnvC ah cl C X.env) fp).iV (Bo X C (compEnvC ah cl C X.env))) bZ te) (hs: ∀x,foldedSetIterable iter X.env x=pure x)
  (h:qw wi g tt te (own.map (·.2)) σ H Q)
  (AB: ∀D C s' m H',Inv X aa σ H' s'->Q (.ref D) H'->s'.heap.Ns C m->eC X aa H' C->compPost (model X.prog X.w) X.A X.xe use Qf (.ref D) C (.ok .next) s'):
  wpAny (model X.prog X.w) X.A (comprehension (.ListComp bZ [⟨tg,iter,cQ,0⟩] ah pos) ah X.env dj (newList []) false (eval iter X.env) use) Qf X.xe s:=by
 have lB: ∀y∈ah.names,y.2= .free-> ∃c,X.env.cells.lookup y.1=some c:=fun y hy e=>by
  rcases ok.free y hy e with k |k
  ·exact I.ok.has _ (.inl k)
  ·exact I.ok.has _ (.inr k)
 refine wpAny_comprehension_free (use:=use) rfl hs (Ec lB) ok.kind (fun y hy e=>by rw[ok.uniq y hy,e])
  (aF (hi aa s σ H _ I h) fun xv s1 hx=>aF hx fun ub s2 h2=>?_)
 obtain⟨it,fp,tn,J,H2,e,I2,T,nM,f2,q⟩:=h2;subst e;refine wpAny_newObj_type (DT ?_) (by show 0<=sizeLine;decide);generalize hD:s2.heap.objs.size=D;have Az:H2 D=none:=I2.aw.fresh (Nat.le_of_eq hD);obtain⟨W,⟨m0,w0⟩,ki⟩:=q D Az;generalize c7:({s2 with heap:=s2.heap.push {cls:= .type "list",data:= .seq ([]:List Value).toArray}}:Shared)=s3;have I3:Inv X aa σ (upd H2 D (.lst [])) s3:=by
  rw[<-c7];refine I2.laid (t':=s2.toks) (fun b o e=>Heap.get?_push_of_some _ e) (Nat.le_of_eq hD) ⟨Nat.zero_le _,[],0,.nil,?_⟩;rw[<-hD];exact Heap.get?_push_size _ rfl
 have h3:s3.heap=s2.heap.push {cls:= .type "list",data:= .seq ([]:List Value).toArray}:=by rw[<-c7]
 have sz: ∀b∈fp,b<s2.heap.objs.size:=fun b hb=>by
  obtain⟨o,e,_⟩:=T.obj _ _ nM b hb;exact Heap.lt_size e
 have f3: ∀b∈fp,eC X aa (upd H2 D (.lst [])) b/\b<s3.heap.objs.size:=fun b hb=>by
  have aW:=sz b hb;refine⟨⟨?_,(f2 b hb).2⟩,by rw[h3,Heap.size_push];exact Nat.lt_succ_of_lt aW⟩;rw[aj (by rw[<-hD];exact Nat.ne_of_lt aW)];exact(f2 b hb).1
 have qu:tn 0 s3.heap:=T.keep _ _ _ nM fun b _ o e=>by rw[h3];exact Heap.get?_push_of_some _ e
 have I4:=DK I3 ok hN f3;have pg:=hg s3 (upd H2 D (.lst [])) s3.heap.objs.size (cellsFrom (s3.heap.objs.size+1) ah.names (cU X.env.cells ah.names [])) fp;have pt:=ht s3 (upd H2 D (.lst [])) s3.heap.objs.size (cellsFrom (s3.heap.objs.size+1) ah.names (cU X.env.cells ah.names [])) fp;have pe:=he s3 (upd H2 D (.lst [])) s3.heap.objs.size (cellsFrom (s3.heap.objs.size+1) ah.names (cU X.env.cells ah.names [])) fp ⟨aa,σ,I3,fun b hb=>(f3 b hb).1⟩ rfl;show codeAny _ _ (.compStart (.ListComp bZ [⟨tg,iter,cQ,0⟩] ah pos) 0 (.ref it) (.ref D) (compEnvC ah (cellsFrom (s3.heap.objs.size+1) ah.names (cU X.env.cells ah.names [])) s3.heap.objs.size X.env)) (compPost (model X.prog X.w) X.A X.xe use Qf (.ref D) s3.heap.objs.size) {s3 with heap:=pushCells (s3.heap.push {cls:= .type "dict",data:= .dict #[]}) ah.names};have ue: ∀b∈fp,(upd H2 D (.lst [])) b=none:=fun b hb=>(f3 b hb).1.1;generalize hce:compEnvC ah (cellsFrom (s3.heap.objs.size+1) ah.names (cU X.env.cells ah.names [])) s3.heap.objs.size X.env=ce at I4 pg pt pe ⊢;have cL:ce.locals=s3.heap.objs.size:=by subst hce;rfl
 generalize hH3:upd H2 D (.lst [])=H3 at I3 I4 pg pt pe w0 ue f3;generalize hs4:({s3 with heap:=pushCells (s3.heap.push {cls:= .type "dict",data:= .dict #[]}) ah.names}:Shared)=s4 at I4 ⊢;have uj:tn 0 s4.heap:=T.keep _ _ _ qu fun b _ o e=>by rw[<-hs4];exact pushCells_keeps _ _ _ _ (Heap.get?_push_of_some _ e)
 have iS: ∀{σ':St}{H':Hp}{s':Shared},Inv (X.b9 s3 H3 ah ce fp) [] σ' H' s'->(∀b∈fp,H' b=none)-> ∀b∈fp,eC (X.b9 s3 H3 ah ce fp) [] H' b:=fun {σ' H' s'} I' hn b hb=>
  ⟨hn b hb,(I'.ok.km b hb).1,I'.ok.j7 b hb,.inl hb,fun x c e=>(I'.ok.km b hb).2 x c e,fun p hp=>absurd (show p∈([]:List (Addr×Obj))++[] from hp) (by simp)⟩
 have sI:codeAny (model X.prog X.w) X.A (.compLoop (.ListComp bZ [⟨tg,iter,cQ,0⟩] ah pos) 0 (.ref it) (.ref D) ce) (compPost (model X.prog X.w) X.A X.xe use Qf (.ref D) s3.heap.objs.size) s4:=by
  refine Dm (fun n s'=> ∃i H',Inv (X.b9 s3 H3 ah ce fp) [] (wipe σ (own.map (·.2))) H' s'/\tn i s'.heap/\(∀b∈fp,H' b=none)/\W i n H') ?_ m0 ⟨0,H3,I4,uj,ue,w0⟩;rintro n s5 ⟨i,H5,I5,kH,n5,w5⟩;rcases ki i n H5 w5 with⟨stop,qq⟩ |⟨go,Nx,AA,step⟩
  ·have td:=T.done (X.b9 s3 H3 ah ce fp) rfl rfl rfl hc i [] s5 _ H5 (fun _ _=>False) I5 (iS I5 n5) kH stop;refine iU td fun r s6 ⟨hr,I6⟩=>?_;subst hr;have I7:Inv X aa σ H5 s6:=I3.vT (ch:=fp) I6.os I6.base I6.aw I6.bare fun b hb=>⟨(f3 b hb).1.2.2.2.1,(f3 b hb).1.2.1,(f3 b hb).1.2.2.2.2.1,(f3 b hb).1.2.2.2.2.2⟩;have nC:H5 s3.heap.objs.size=none:=by
    have z:H5 ce.locals=none:=I6.free;rw[cL] at z;exact z
   obtain⟨m,hn,_⟩:=I6.loc;have hn:s6.heap.Ns ce.locals m:=hn;rw[cL] at hn;exact AB D s3.heap.objs.size s6 m H5 I7 qq hn (I3.lL (Nat.le_refl _) nC)
  ·have ti:=T.item (X.b9 s3 H3 ah ce fp) rfl rfl rfl hc i [] s5 _ H5 (fun _ _=>False) I5 (iS I5 n5) kH go;refine iU ti fun r s6 ⟨u,hr,h6⟩=>?_;subst hr;refine iU h6 fun _ s7 ⟨x,H7,I7,r7,y7,nN,n7⟩=>?_;have Aq:=I7.pinned (iS I7 n7) (T.obj _ _ nN);refine iU (pg _ s7 _ H7 x u _ Aq r7 (step x H7 y7)) fun _ s8 ⟨σ8,H8,I8,t_,q8⟩=>?_;refine iU (pt _ s8 σ8 H8 _ I8 q8) fun b s9 ⟨H9,I9,q9⟩=>?_;have fin: ∀{s':Shared}{H':Hp},Inv (X.b9 s3 H3 ah ce fp) ([]++pF fp s7.heap) σ8 H' s'->Nx H'-> ∃m,m<n/\ ∃i H',Inv (X.b9 s3 H3 ah ce fp) [] (wipe σ (own.map (·.2))) H' s'/\tn i s'.heap/\(∀b∈fp,H' b=none)/\W i m H':=fun {s' H'} I' nx=>by
    obtain⟨m',hm,w'⟩:=AA H' nx;have sL: ∀b∈fp,∀o,s7.heap.get? b=some o->s'.heap.get? b=some o/\H' b=none:=fun b hb o e=>
     let z:=I'.pin (b,o) (List.mem_append_right _ (List.mem_append_right _ (uM hb e)))
     ⟨z.1,z.2.1⟩
    have hl:(wipe σ (own.map (·.2))).length=σ8.length:=by rw[<-t_,uK]
    refine⟨m',hm,i+1,H',(I'.rN (aa:=[])).weak hl (fun j v e=>?_),T.keep _ _ _ nN fun b hb o e=>(sL b hb o e).1,fun b hb=>?_,w'⟩
    ·rw[<-t_] at e;exact(u9 e).1
    ·obtain⟨o,e,_⟩:=T.obj _ _ nN b hb;exact(sL b hb o e).2
   cases b with
   |false=>
    simp only [Bool.false_eq_true,if_false] at q9 ⊢;exact fin I9 q9
   |true=>
    simp only [if_true] at q9 ⊢;refine wpAny_mono (pe _ s9 σ8 H9 _ (I9.iV _) q9) (fun z X9 ⟨yv,V_,Ao,Bb,acc,zZ,Ae,nx⟩=>?_) fun ex sx hx=>hx;exact IH (X:=X.b9 s3 H3 ah ce fp) Ao.zz zZ Ae Bb fun X_ Ap=>fin Ap nx
 exact codeAny_compStart_list sI (T.self X.A 0 _ _ _ uj sI)
theorem TK{bZ tg iter:Expr}{cQ:List Expr}{ah:Scope}{own:List (Str×Nat)}{pos:Pos}{wi:TI}{g:TG}{tt:TT}{te:TE}(hc:X.calm=true)(hN:X.N.Nodup)(hi:PI X tg iter wi)(ok:mL X.N X.env.scope ah own)
  (hg: ∀(s:Shared)(H:Hp)(C:Addr)(cl:List (Str×Addr))(fp:List Addr),PG (X.b9 s H ah (compEnvC ah cl C X.env) fp) tg g) (ht: ∀(s:Shared)(H:Hp)(C:Addr)(cl:List (Str×Addr))(fp:List Addr),ng (X.b9 s H ah (compEnvC ah cl C X.env) fp) cQ tt)
  (he: ∀(s:Shared)(H:Hp)(C:Addr)(cl:List (Str×Addr))(fp:List Addr),(∃aa σ,Inv X aa σ H s/\ ∀b∈fp,eC X aa H b)->C=s.heap.objs.size->PE ((X.b9 s H ah (compEnvC ah cl C X.env) fp).iV (Bo X C (compEnvC ah cl C X.env))) bZ te) (hs: ∀x,foldedSetIterable iter X.env x=pure x:=by intro _;rfl):
  PE X (.ListComp bZ [⟨tg,iter,cQ,0⟩] ah pos) (qw wi g tt te (own.map (·.2))):=by
 intro aa s σ H Q I h;rw[eval_ListComp];refine Qw hc hN I hi ok hg ht he hs h fun D C s' m H' I' q hn f=>⟨m,hn,fun tp sb=>?_⟩;obtain⟨f0,f1,f2,f3,f4,f5⟩:=f;exact⟨.ref D,H',I'.turned (t':=s'.toks) (fun b o hb e=>(sb.2 b hb).trans e) f0 f1 f3 f4 f5,rfl,q⟩
end
theorem eS.mono{X:Cx}{aa:List (Addr×Obj)}{m n:Nat}(c:eS X aa m)(h:m<=n):eS X aa n:=
 ⟨Nat.le_trans c.s0 h,Nat.lt_of_lt_of_le c.loc h,fun x a e=>Nat.lt_of_lt_of_le (c.jw x a e) h,fun p hp=>Nat.lt_of_lt_of_le (c.pin p hp) h⟩
theorem Pz(e:Value){a b:Env}(h:a.frame=b.frame):noteFrame e a=noteFrame e b:=by
 unfold noteFrame PySem.frameOf;rw[h]
theorem SN{X:Cx}{cs:Addr}{E:XK}(T:fT cs X E)(bL:X.stack=X.env::X.outer/\X.env.frame=some X.env.locals){s:Shared}{H:Hp}{ah:Scope}{cl:List (Str×Addr)}{C:Addr}{fp:List Addr}
  (hI: ∃aa σ,Inv X aa σ H s/\ ∀b∈fp,eC X aa H b) (hC:C=s.heap.objs.size):fT cs ((X.b9 s H ah (compEnvC ah cl C X.env) fp).iV (Bo X C (compEnvC ah cl C X.env))) E:=by
 intro lH σ' H' s' a CC d n I cv x q;obtain⟨aa,σ,I0,f0⟩:=hI;have J:Inv X aa σ H' s':=I0.vT (ch:=fp) I.os I.base I.aw I.bare fun b hb=>⟨(f0 b hb).2.2.2.1,(f0 b hb).2.1,(f0 b hb).2.2.2.2.1,(f0 b hb).2.2.2.2.2⟩;have Wl:eS X aa n:=I0.lS.mono cv.s0;have cC:C<n:=cv.loc;have fr:X.A.frames=some (X.env::X.outer):=by
  have e:=J.ok.frames
  rwa [bL.1] at e
 have fk: ∀{σ:St}{s':Shared},Inv X aa σ H' s'->s'.heap.FunFrames X.base (X.env::X.outer):=fun J=>by
  have e:=J.stack
  rwa [bL.1] at e
 have tj: ∀{σ:St}{s':Shared},Inv X aa σ H' s'-> ∀b∈cK X.stack,∃o,s'.heap.get? b=some o/\ ∀vs,o.data≠ .fields vs:=fun J b mb=>by
  rw[bL.1] at mb;exact((fk J).mem mb).2
 obtain⟨wC,hP,hw⟩:=Jm J Wl;have x:=x.weak fun b _ p=>hw b p;have wB:C<min n s'.heap.objs.size:=Nat.lt_min.mpr ⟨cC,I.lt⟩;generalize min n s'.heap.objs.size=m at wC hP x wB;show wpAny _ _ (noteFrame (.ref a) (compEnvC ah cl C X.env)) _ _ s';rw[Pz (.ref a) (show(compEnvC ah cl C X.env).frame=X.env.frame from rfl)];refine Bx.vZ fr (fk J) bL.2 hP x fun h1 x1 k1 z1=>?_;have J1:=J.lE wC (by rw[bL.1];exact k1);have nC:H' C=none:=I.free;have fC:eC X aa H' C:=I0.lL (Nat.le_of_eq hC.symm) nC;obtain⟨mm,fW,_⟩:=I.loc;have fW:s'.heap.Ns C mm:=fW;have Xg:h1.Ns C mm:=by
  obtain⟨o,es,ep,ho,r⟩:=fW;refine⟨o,es,ep,k1.keep C o (.inl wB) (fun z=>?_) ho,r⟩;have z:C∈cK (X.env::X.outer):=z;rw[<-bL.1] at z;rcases List.mem_cons.mp (J.pH C z) with w |w
  ·exact fC.2.1 w
  ·exact fC.2.2.1 w
 refine⟨mm,Xg,fun h2 sb c hc=>?_⟩;obtain⟨g0,g1,g2,g3,g4,g5⟩:=fC;have J2:Inv X aa σ H' {s' with heap:=h2}:=Inv.turned (s:={s' with heap:=h1}) (h':=h2) (t':=s'.toks) (it:=C) J1 (fun b o hb e=>(sb.2 b hb).trans e) g0 g1 g3 g4 g5;have x2:Bx.gj (Pk m H') cs h2 a CC d:=by
  obtain⟨p,vs,e1,e2,e3,TT,oT,ts,e4,p5,e6,e7,e8,e9⟩:=x1;exact⟨p,vs,(sb.2 a fun z=>p (.inl (z▸wB))).trans e1,e2,e3,TT,oT,ts,e4,p5,e6,(sb.2 TT fun z=>p5 (.inl (z▸wB))).trans e7,e8,e9⟩
 unfold PySem.passOn;obtain⟨p,vs,e1,e2,e3,TT,oT,ts,e4,r⟩:=id x2;refine wpAny_bind (wpAny_field (s:={s' with heap:=h2}) e1 rfl e4 ?_);rw[if_neg (by simp)];refine wpAny_bind (Bx.rQ (s:={s' with heap:=h2}) x2 (cK X.stack) (tj J2) fun h3 x3 k3 z3=>?_);exact wpAny_throw (T aa _ H' _ a CC d _ (J2.lE wC k3) wC (.inr x3) q)
end L2
set_option genInjectivity false
namespace Bp
open PySem PySem.Spec PyProof.Rows L2
variable{K:FG}{mg:Str->Option Value}{w:World}{P:Program}{base:Heap}{cs:Addr}
theorem aL{N P:List Str}{sc:Scope}(a:sc.kind= .function:=by rfl)(b:sc.isCoroutine=false:=by rfl)(c:sc.isGenerator=false:=by rfl)(d:N.Nodup:=by decide +kernel)(e:N.take P.length=P:=by rfl)(f: ∀x∈P,sc.names.lookup x=some .local∨sc.names.lookup x=some .cell:=by decide +kernel)(g: ∀y∈sc.names,y.2≠ .free:=by decide +kernel):aI N P sc:=⟨a,b,c,d,e,f,g⟩
def top(i:Nat):Stmt:=PySem.Challenge.pw_buildqueries_s01_answers.main.body.getD i (.Pass ⟨0,0,0,0⟩)
structure GF(K:FG)(mg:Str->Option Value)(x:Str)(st:Stmt)(ps:List Str) where
 f:Addr
 fd:FuncData
 F:m_ K x x st f fd
 b:Binds K fd ps []
 m:mg x=some (.ref f)
structure MF(K:FG)(C:Addr)(x q:Str)(st:Stmt)(ps:List Str) where
 f:Addr
 fd:FuncData
 F:m_ K x q st f fd
 b:Binds K fd ps []
 me:Meth K C x f
structure CF(K:FG)(mg:Str->Option Value)(x:Str)(bR:List Str) where
 C:Addr
 m:mg x=some (.ref C)
 cl:ie K C
 XW:PySem.W.makesIn K C=true
 kp:PySem.W.keepIn K (.ref C)=true
 na: ∀f∈bR,cV K C f
 Wh:PySem.W.findIn K (.ref C) "__class__"=some (some (.builtin "object.__class__"))
 Wi:PySem.W.specialIn K (.builtin "object.__class__") "__get__"=some (some (.builtin "getset_descriptor.__get__"))
 Wj:PySem.W.takesIn K (.builtin "object.__class__")=some true
 Wk:PySem.W.mroIn K C (.type "object")=some true
structure XF(K:FG)(mg:Str->Option Value)(x:Str) where
 C:Addr
 m:mg x=some (.ref C)
 cl:fB K C
 num:cV K C "number"
 pos:cV K C "position"
theorem CF.nn{K:FG}{mg:Str->Option Value}{x f:Str}{fs:List Str}(c:CF K mg x fs)(h:f∈fs:=by decide +kernel):cV K c.C f:=c.na f h
theorem aK{X:Cx}{CX:fS}{k:Nat}{ps:List Str}{sp:Sp}{E:XK}{x:Str}{st:Stmt}{p pos:Pos}{e:Expr}{es:List Expr}{t:TA}(g:GF X.K X.mg x st ps)(F:aB X.prog X.w X.K X.mg X.base CX k g.f g.fd ps sp)(hr:az k X.A)(hx:Passes CX X E)(ha:PA X (e::es) t)(hg:Gl X x:=by rfl)(bC:(x==("__debug__":Str))=false:=by decide)(he:starEach (e::es) X.env=(false,eval e X.env)::starEach es X.env:=by rfl)(cz:(backTo pos (starEach es X.env)).any (·.1)=false:=by rfl):PE X (.Call (.Name x p) (e::es) [] pos) (mY sp [] E t):=Sg F hr hg g.m g.F.kp g.b .nil hx ha bC he cz
theorem aT{X:Cx}{x:Str}{e:Expr}{te:TE}{pos dj:Pos}(i:Nat)(hN:X.N.Nodup)(he:PE X e te)(hi:X.N[i]? =some x:=by rfl)(hx:Loc X.env.scope x:=by exact Or.inl rfl)(hs:swapsWith e (some (.Name x dj)) pos.line X.env=pure false:=by rfl)(hf:X.fn x=true∨X.env.scope.names.lookup x=some .local:=by first |exact .inl rfl |exact .inr rfl |assumption):PS X (.Assign [.Name x dj] e pos) (sM te (de i)):=TQ hN hi hx he hs hf
theorem MF.fG{K:FG}{mg:Str->Option Value}{x q y:Str}{fs ps:List Str}{st:Stmt}{c:CF K mg y fs}(h:x="__init__")(t:MF K c.C x q st ps):Mk K c.C t.f:=by
 subst h;exact⟨c.XW,t.me.at_,t.me.fn,c.kp⟩
theorem MF.d3{K:FG}{mg:Str->Option Value}{x q y:Str}{ps:List Str}{st:Stmt}{c:XF K mg y}(h:x="__init__")(t:MF K c.C x q st ps):pX K c.C t.f:=by
 subst h;exact⟨c.cl,t.me.at_,t.me.fn⟩
abbrev C7:Stmt:=inClass (top 1) 0
abbrev CB:Stmt:=inClass (top 2) 0
abbrev Er:Stmt:=inClass (top 3) 0
abbrev Es:Stmt:=inClass (top 4) 0
abbrev DX:Stmt:=inClass (top 5) 0
abbrev Fl:Stmt:=top 7
abbrev Fi:Stmt:=top 8
abbrev Eu:Stmt:=top 9
abbrev Dz:Stmt:=top 10
abbrev Gw:Stmt:=top 11
abbrev Fm:Stmt:=top 12
abbrev CG:Stmt:=top 13
abbrev C_:Stmt:=top 14
abbrev HV:Stmt:=top 16
abbrev Jr:Stmt:=top 17
abbrev Gu:Stmt:=top 18
abbrev Fg:Stmt:=top 19
abbrev CL:Stmt:=top 20
abbrev Gs:Stmt:=top 21
abbrev Dh:Stmt:=top 22
abbrev Dc:Stmt:=top 23
abbrev Fj:Stmt:=top 24
abbrev CM:Stmt:=top 28
abbrev Fh:Stmt:=top 29
abbrev Fo:Stmt:=top 31
abbrev Et:Stmt:=top 32
abbrev Gv:Stmt:=top 33
abbrev Dd:Stmt:=top 34
abbrev De:Stmt:=top 35
abbrev D2:Stmt:=top 36
abbrev D1:Stmt:=top 37
abbrev Df:Stmt:=top 38
abbrev DA:Stmt:=top 39
abbrev DB:Stmt:=top 40
abbrev CK:Stmt:=inClass (top 42) 0
abbrev B1:Stmt:=inClass (top 43) 0
abbrev BL:Stmt:=inClass (top 44) 0
abbrev BS:Stmt:=inClass (top 45) 0
abbrev BW:Stmt:=inClass (top 46) 0
abbrev BQ:Stmt:=inClass (top 47) 0
abbrev Bz:Stmt:=inClass (top 48) 0
abbrev Dt:Stmt:=inClass (top 49) 0
abbrev Cn:Stmt:=inClass (top 50) 0
abbrev B9:Stmt:=inClass (top 51) 0
abbrev B0:Stmt:=inClass (top 52) 0
abbrev Cf:Stmt:=inClass (top 53) 0
abbrev BC:Stmt:=inClass (top 54) 0
abbrev BB:Stmt:=inClass (top 55) 0
abbrev Dv:Stmt:=inClass (top 67) 0
abbrev Fn:Stmt:=top 68
abbrev Cp:Stmt:=top 69
abbrev CN:Stmt:=top 70
abbrev CO:Stmt:=top 71
abbrev Ew:Stmt:=top 72
abbrev Dy:Stmt:=top 73
abbrev C8:Stmt:=inClass (top 79) 0
abbrev Co:Stmt:=inClass (top 79) 1
abbrev CA:Stmt:=inClass (top 79) 2
abbrev C9:Stmt:=inClass (top 79) 3
abbrev By:Stmt:=inClass (top 79) 4
abbrev BK:Stmt:=inClass (top 79) 5
abbrev BY:Stmt:=inClass (top 79) 6
abbrev B7:Stmt:=inClass (top 79) 7
abbrev B8:Stmt:=inClass (top 79) 8
abbrev BZ:Stmt:=inClass (top 79) 9
abbrev Bw:Stmt:=inClass (top 79) 10
abbrev Bu:Stmt:=inClass (top 79) 11
abbrev BX:Stmt:=inClass (top 79) 12
abbrev BJ:Stmt:=inClass (top 79) 13
abbrev BI:Stmt:=inClass (top 79) 14
abbrev DC:Stmt:=top 80
abbrev HX:Stmt:=top 83
abbrev HY:Stmt:=top 84
abbrev HW:Stmt:=top 85
abbrev Dg:Stmt:=top 86
abbrev Cq:Stmt:=top 87
abbrev CD:Stmt:=top 88
abbrev Js:Stmt:=top 89
abbrev HU:Stmt:=top 90
abbrev Dx:Stmt:=top 94
abbrev D0:Stmt:=inClass (top 95) 0
abbrev Du:Stmt:=inClass (top 96) 0
abbrev BU:Stmt:=inClass (top 96) 1
abbrev BV:Stmt:=inClass (top 96) 2
abbrev Ck:Stmt:=inClass (top 96) 3
abbrev B6:Stmt:=inClass (top 96) 4
abbrev Ci:Stmt:=inClass (top 96) 5
abbrev Cg:Stmt:=inClass (top 96) 6
abbrev Cj:Stmt:=inClass (top 96) 7
abbrev Cm:Stmt:=inClass (top 96) 8
abbrev DZ:Stmt:=inClass (top 96) 9
abbrev DY:Stmt:=inClass (top 108) 0
abbrev Cy:Stmt:=inClass (top 108) 1
abbrev BR:Stmt:=inClass (top 108) 2
abbrev Cz:Stmt:=inClass (top 108) 3
abbrev B_:Stmt:=top 109
abbrev Jq:Stmt:=top 110
abbrev Gr:Stmt:=top 111
abbrev Ff:Stmt:=top 112
theorem Nk:aI ["self","text"] ["self","text"] (aG C7):=aL
theorem MT:aI ["self","name"] ["self","name"] (aG CB):=aL
theorem OA:aI ["self","name","given","body"] ["self","name","given","body"] (aG Er):=aL
theorem OB:aI ["self","first","steps"] ["self","first","steps"] (aG Es):=aL
theorem NR:aI ["self","word","texts","parts","limit"] ["self","word","texts","parts","limit"] (aG DX):=aL
theorem yc:aI ["mask","number"] ["mask"] (aG Fl):=aL
theorem uQ:aI ["numbers","mask","number"] ["numbers"] (aG Fi):=aL
theorem OD:aI ["mask"] ["mask"] (aG Eu):=aL
theorem uy:aI ["needs","mask","found","number"] ["needs","mask"] (aG Dz):=aL
theorem oW:aI ["needs","back","number","row","needed"] ["needs"] (aG Gw):=aL
theorem rb:aI ["needs","mask","limit","length","wider"] ["needs","mask","limit"] (aG Fm):=aL
theorem l_:aI ["needs","start","goal","back","layers","seen","layer"] ["needs","start","goal"] (aG CG):=aL
theorem oz:aI ["needs","start","goal","path","allowed","layer","number"] ["needs","start","goal"] (aG C_):=aL
theorem vn:aI ["row","part","last","start"] ["row","part"] (aG HV):=aL
theorem Su:aI ["node","word","texts"] ["node","word","texts"] (aG Jr):=aL
theorem yy:aI ["needs","mask","number"] ["needs","mask"] (aG Gu):=aL
theorem O7:aI ["needs","start","goal","limit"] ["needs","start","goal","limit"] (aG Fg):=aL
theorem qC:aI ["graph","call","masks","needs","mask","number"] ["graph","call","masks"] (aG CL):=aL
theorem PV:aI ["sign","left","right"] ["sign","left","right"] (aG Gs):=aL
theorem qG:aI ["graph","tree","given","mask","sign","term"] ["graph","tree","given"] (aG Dh):=aL
theorem CQ:aI ["graph","tree","given","inner"] ["graph","tree","given"] (aG Dc):=aL
theorem uR:aI ["graph","tree","given","part"] ["graph","tree","given"] (aG Fj):=aL
theorem MZ:aI ["byte"] ["byte"] (aG CM):=aL
theorem yb:aI ["row","byte"] ["row"] (aG Fh):=aL
theorem ye:aI ["words","sign"] ["words"] (aG Fo):=aL
theorem OC:aI ["row"] ["row"] (aG Et):=aL
theorem PX:aI ["text"] ["text"] (aG Gv):=aL
theorem CS:aI ["tree","row"] ["tree"] (aG Dd):=aL
theorem CT:aI ["tree","row"] ["tree"] (aG De):=aL
theorem uC:aI ["tree","row","sign","term"] ["tree"] (aG D2):=aL
theorem DD:aI ["tree","opening"] ["tree"] (aG D1):=aL
theorem qF:aI ["tree","pieces","text","part"] ["tree"] (aG Df):=aL
theorem xG:aI ["tree","row","piece"] ["tree"] (aG DA):=aL
theorem Di:aI ["tree"] ["tree"] (aG DB):=aL
theorem MY:aI ["self","number"] ["self","number"] (aG CK):=aL
theorem MA:aI ["self"] ["self"] (aG B1):=aL
theorem Ms:aI ["self"] ["self"] (aG BL):=aL
theorem Mv:aI ["self"] ["self"] (aG BS):=aL
theorem My:aI ["self"] ["self"] (aG BW):=aL
theorem Mu:aI ["self"] ["self"] (aG BQ):=aL
theorem Mp:aI ["self"] ["self"] (aG Bz):=aL
theorem Nu:aI ["self","number","position"] ["self","number","position"] (aG Dt):=aL
theorem MO:aI ["self"] ["self"] (aG Cn):=aL
theorem MD:aI ["self","position"] ["self","position"] (aG B9):=aL
theorem Mz:aI ["self","position"] ["self","position"] (aG B0):=aL
theorem MK:aI ["self","position"] ["self","position"] (aG Cf):=aL
theorem Mr:aI ["self","position"] ["self","position"] (aG BC):=aL
theorem Mq:aI ["self","number"] ["self","number"] (aG BB):=aL
theorem Nw:aI ["self","form","value","position","behind"] ["self","form","value","position","behind"] (aG Dv):=aL
theorem yd:aI ["text","start","low","high","place"] ["text","start","low","high"] (aG Fn):=aL
theorem qz:aI ["text","position","form","start","behind","word","byte"] ["text","position","form","start"] (aG Cp):=aL
theorem md:aI ["text","position","behind","digits","value","digit","byte"] ["text","position"] (aG CN):=aL
theorem qD:aI ["text","position","start","place","closed"] ["text","position"] (aG CO):=aL
theorem D3:aI ["text","position","byte"] ["text","position"] (aG Ew):=aL
theorem oB:aI ["text","tokens","place","token"] ["text"] (aG Dy):=aL
theorem Nl:aI ["self","tokens"] ["self","tokens"] (aG C8):=aL
theorem MP:aI ["self"] ["self"] (aG Co):=aL
theorem Cr:aI ["self","form","value","token"] ["self","form","value"] (aG CA):=aL
theorem CP:aI ["self","form","token"] ["self","form"] (aG C9):=aL
theorem Mo:aI ["self","form","value"] ["self","form","value"] (aG By):=aL
theorem BF:aI ["self","query"] ["self"] (aG BK):=aL
theorem BN:aI ["self","level","known"] ["self","level","known"] (aG BY):=aL
theorem uo:aI ["self","level","known","name","given","body"] ["self","level","known"] (aG B7):=aL
theorem uq:aI ["self","level","known","first","steps","sign"] ["self","level","known"] (aG B8):=aL
theorem BO:aI ["self","level","known","token"] ["self","level","known"] (aG BZ):=aL
theorem Bv:aI ["self","known","token"] ["self","known"] (aG Bw):=aL
theorem Bt:aI ["self","level","known","inner"] ["self","level","known"] (aG Bu):=aL
theorem l9:aI ["self","level","known","word","shape","texts","parts","limit"] ["self","level","known"] (aG BX):=aL
theorem BE:aI ["self","wanted","texts"] ["self","wanted"] (aG BJ):=aL
theorem BD:aI ["self","wanted","level","known","parts"] ["self","wanted","level","known"] (aG BI):=aL
theorem Nz:aI ["text"] ["text"] (aG DC):=aL
theorem Rg:aI ["graph","text"] ["graph","text"] (aG HX):=aL
theorem Gy:aI ["text","fault"] ["text"] (aG HY):=aL
theorem Rf:aI ["text"] ["text"] (aG HW):=aL
theorem CU:aI ["text","fault"] ["text"] (aG Dg):=aL
theorem Cc:aI ["graph","tree","refusal"] ["graph","tree"] (aG Cq):=aL
theorem xy:aI ["graph","a","b","first","second"] ["graph","a","b"] (aG CD):=aL
theorem H_:aI ["graph","a","b","masks"] ["graph","a","b"] (aG Js):=aL
theorem Gx:aI ["graph","a","b","masks"] ["graph","a","b"] (aG HU):=aL
theorem Ny:aI ["row"] ["row"] (aG Dx):=aL
theorem NU:aI ["self","name","kind"] ["self","name","kind"] (aG D0):=aL
theorem Nv:aI ["self"] ["self"] (aG Du):=aL
theorem Mw:aI ["self","number"] ["self","number"] (aG BU):=aL
theorem Mx:aI ["self","a","b"] ["self","a","b"] (aG BV):=aL
theorem MN:aI ["self","a","b"] ["self","a","b"] (aG Ck):=aL
theorem MC:aI ["self","name"] ["self","name"] (aG B6):=aL
theorem Ca:aI ["self","name","kind","number"] ["self","name","kind"] (aG Ci):=aL
theorem ML:aI ["self","a","b"] ["self","a","b"] (aG Cg):=aL
theorem MM:aI ["self","a","b"] ["self","a","b"] (aG Cj):=aL
theorem Cb:aI ["self","number","name","text","marks"] ["self","number","name","text"] (aG Cm):=aL
theorem NT:aI ["self","a","b"] ["self","a","b"] (aG DZ):=aL
theorem NS:aI ["self","numbers"] ["self","numbers"] (aG DY):=aL
theorem MS:aI ["self"] ["self"] (aG Cy):=aL
theorem BM:aI ["self","number"] ["self"] (aG BR):=aL
theorem xw:aI ["self","count","row"] ["self"] (aG Cz):=aL
theorem ME:aI ["graph","call","feed"] ["graph","call","feed"] (aG B_):=aL
theorem HZ:aI ["graph","feed","call"] ["graph","feed"] (aG Jq):=aL
theorem Fp:aI ["graph","feed","refusal"] ["graph","feed"] (aG Gr):=aL
theorem ra:aI ["calls","graph","feed","told","row"] ["calls"] (aG Ff):=aL
structure KD(K:FG)(w:World)(a:Addr)(af:List (Key×V)):Prop where
 at_: ∀(P:Program)(h:Heap),K.In h-> ∃vs,KV af vs/\h.DictOf (dJ P w) a vs
 sm:(a==sysModules)=false
 sz:af.length<=1000
structure Tx(K:FG)(mg:Str->Option Value)(w:World) where
 cq:CF K mg "Quoted" ["text"]
 oE:MF K cq.C "__init__" "Quoted.__init__" C7 ["self","text"]
 b_:CF K mg "Variable" ["name"]
 oy:MF K b_.C "__init__" "Variable.__init__" CB ["self","name"]
 bF:CF K mg "Let" ["body","given","name"]
 oQ:MF K bF.C "__init__" "Let.__init__" Er ["self","name","given","body"]
 bO:CF K mg "Sum" ["first","steps"]
 oR:MF K bO.C "__init__" "Sum.__init__" Es ["self","first","steps"]
 aU:CF K mg "Call" ["limit","parts","texts","word"]
 kW:MF K aU.C "__init__" "Call.__init__" DX ["self","word","texts","parts","limit"]
 members:GF K mg "members" Fl ["mask"]
 mE:GF K mg "mask_of" Fi ["numbers"]
 pf:GF K mg "smallest" Eu ["mask"]
 oK:GF K mg "next_nodes" Dz ["needs","mask"]
 turned:GF K mg "turned" Gw ["needs"]
 reached:GF K mg "reached" Fm ["needs","mask","limit"]
 qJ:GF K mg "layers_before" CG ["needs","start","goal"]
 mj:GF K mg "chosen_path" C_ ["needs","start","goal"]
 holds:GF K mg "holds" HV ["row","part"]
 fits:GF K mg "fits" Jr ["node","word","texts"]
 leaves:GF K mg "leaves" Gu ["needs","mask"]
 between:GF K mg "between" Fg ["needs","start","goal","limit"]
 qL:GF K mg "call_meaning" CL ["graph","call","masks"]
 joined:GF K mg "joined" Gs ["sign","left","right"]
 qU:GF K mg "sum_meaning" Dh ["graph","tree","given"]
 qP:GF K mg "let_meaning" Dc ["graph","tree","given"]
 gc:GF K mg "meaning" Fj ["graph","tree","given"]
 CZ: ∃t,mg "LONGEST_TEXT"=some (.int 40 t)
 rY: ∃t,mg "QUOTE"=some (.int 34 t)
 oC:GF K mg "is_text_byte" CM ["byte"]
 pq:GF K mg "is_text" Fh ["row"]
 spelled:GF K mg "spelled" Fo ["words"]
 my:GF K mg "enclosed" Et ["row"]
 quoted:GF K mg "quoted" Gv ["text"]
 qQ:GF K mg "plain_first" Dd ["tree"]
 qR:GF K mg "plain_later" De ["tree"]
 plain_sum:GF K mg "plain_sum" D2 ["tree"]
 rA:GF K mg "plain_let" D1 ["tree"]
 qS:GF K mg "plain_parts" Df ["tree"]
 qZ:GF K mg "plain_call" DA ["tree"]
 iC:GF K mg "plain_form" DB ["tree"]
 cG:XF K mg "Refusal"
 f_:MF K cG.C "__init__" "Refusal.__init__" CK ["self","number"]
 iy:XF K mg "TextRefusal"
 n9:MF K iy.C "__init__" "TextRefusal.__init__" B1 ["self"]
 kQ:XF K mg "TwiceRefusal"
 n0:MF K kQ.C "__init__" "TwiceRefusal.__init__" BL ["self"]
 gM:XF K mg "FullRefusal"
 kJ:MF K gM.C "__init__" "FullRefusal.__init__" BS ["self"]
 eX:XF K mg "NodeRefusal"
 n6:MF K eX.C "__init__" "NodeRefusal.__init__" BW ["self"]
 kR:XF K mg "EdgeRefusal"
 n4:MF K kR.C "__init__" "EdgeRefusal.__init__" BQ ["self"]
 dG:XF K mg "UnknownRefusal"
 nV:MF K dG.C "__init__" "UnknownRefusal.__init__" Bz ["self"]
 eg:XF K mg "Fault"
 ja:MF K eg.C "__init__" "Fault.__init__" Dt ["self","number","position"]
 iB:XF K mg "LongFault"
 ot:MF K iB.C "__init__" "LongFault.__init__" Cn ["self"]
 dq:XF K mg "TokenFault"
 gL:MF K dq.C "__init__" "TokenFault.__init__" B9 ["self","position"]
 eN:XF K mg "SyntaxFault"
 gK:MF K eN.C "__init__" "SyntaxFault.__init__" B0 ["self","position"]
 iA:XF K mg "DeepFault"
 oh:MF K iA.C "__init__" "DeepFault.__init__" Cf ["self","position"]
 fK:XF K mg "VariableFault"
 nW:MF K fK.C "__init__" "VariableFault.__init__" BC ["self","position"]
 aO:XF K mg "SecondRefusal"
 kI:MF K aO.C "__init__" "SecondRefusal.__init__" BB ["self","number"]
 F5: ∃t,mg "LETTERS"=some (.str "abcdefghijklmnopqrstuvwxyz" t)
 yL: ∃t,mg "SMALL_A"=some (.int 97 t)
 yM: ∃t,mg "SMALL_Z"=some (.int 122 t)
 yJ: ∃t,mg "DIGIT_0"=some (.int 48 t)
 yK: ∃t,mg "DIGIT_9"=some (.int 57 t)
 Hx: ∃t,mg "DOLLAR"=some (.int 36 t)
 Hw: ∃a,mg "BLANKS"=some (.ref a)/\ ∀H:Hp,bu K H a [.int 32,.int 9,.int 10,.int 13]
 C0: ∃t,mg "LONGEST_WORD"=some (.int 16 t)
 Cv: ∃t,mg "LONGEST_NUMBER"=some (.int 2 t)
 ba:CF K mg "Token" ["behind","form","position","value"]
 fM:MF K ba.C "__init__" "Token.__init__" Dv ["self","form","value","position","behind"]
 pw:GF K mg "run_end" Fn ["text","start","low","high"]
 ou:GF K mg "lettered_token" Cp ["text","position","form","start"]
 qN:GF K mg "number_token" CN ["text","position"]
 qO:GF K mg "quoted_token" CO ["text","position"]
 rM:GF K mg "token_at" Ew ["text","position"]
 qW:GF K mg "cut_tokens" Dy ["text"]
 CI: ∃t,mg "LONGEST_QUERY"=some (.int 1024 t)
 xB: ∃t,mg "DEEPEST_LEVEL"=some (.int 20 t)
 Eg: ∃a,mg "SUM_SIGNS"=some (.ref a)/\ ∀H:Hp,bu K H a [.str "+",.str "-",.str "&"]
 aP:CF K mg "Reader" ["place","tokens"]
 oF:MF K aP.C "__init__" "Reader.__init__" C8 ["self","tokens"]
 c9:MF K aP.C "current" "Reader.current" Co ["self"]
 fL:MF K aP.C "stands" "Reader.stands" CA ["self","form","value"]
 dD:MF K aP.C "take" "Reader.take" C9 ["self","form"]
 dA:MF K aP.C "take_exactly" "Reader.take_exactly" By ["self","form","value"]
 nZ:MF K aP.C "read_whole" "Reader.read_whole" BK ["self"]
 eM:MF K aP.C "read_expr" "Reader.read_expr" BY ["self","level","known"]
 oa:MF K aP.C "read_let" "Reader.read_let" B7 ["self","level","known"]
 og:MF K aP.C "read_sum" "Reader.read_sum" B8 ["self","level","known"]
 kK:MF K aP.C "read_term" "Reader.read_term" BZ ["self","level","known"]
 nU:MF K aP.C "read_variable" "Reader.read_variable" Bw ["self","known"]
 nS:MF K aP.C "read_parentheses" "Reader.read_parentheses" Bu ["self","level","known"]
 n8:MF K aP.C "read_call" "Reader.read_call" BX ["self","level","known"]
 nY:MF K aP.C "read_texts" "Reader.read_texts" BJ ["self","wanted"]
 nX:MF K aP.C "read_parts" "Reader.read_parts" BI ["self","wanted","level","known"]
 jM:GF K mg "read_query" DC ["text"]
 CY: ∃t,mg "FAULTS_BEGIN"=some (.int 10 t)
 query:GF K mg "query" HX ["graph","text"]
 where_:GF K mg "where" HY ["text"]
 plain:GF K mg "plain" HW ["text"]
 qT:GF K mg "read_second" Dg ["text"]
 qH:GF K mg "second_meaning" Cq ["graph","tree"]
 oA:GF K mg "both_meanings" CD ["graph","a","b"]
 path:GF K mg "path" Js ["graph","a","b"]
 alike:GF K mg "alike" HU ["graph","a","b"]
 DO: ∃t,mg "MOST_NODES"=some (.int 64 t)
 DN: ∃t,mg "MOST_MARKS"=some (.int 8 t)
 kU:GF K mg "check_text" Dx ["row"]
 d7:CF K mg "Node" ["kind","marks","name"]
 oJ:MF K d7.C "__init__" "Node.__init__" D0 ["self","name","kind"]
 aX:CF K mg "Graph" ["needs","nodes","number_by_name"]
 oG:MF K aX.C "__init__" "Graph.__init__" Du ["self"]
 i9:MF K aX.C "check_node" "Graph.check_node" BU ["self","number"]
 i_:MF K aX.C "check_pair" "Graph.check_pair" BV ["self","a","b"]
 kO:MF K aX.C "has_edge" "Graph.has_edge" Ck ["self","a","b"]
 n_:MF K aX.C "number_of" "Graph.number_of" B6 ["self","name"]
 om:MF K aX.C "add_node" "Graph.add_node" Ci ["self","name","kind"]
 oj:MF K aX.C "add_edge" "Graph.add_edge" Cg ["self","a","b"]
 oo:MF K aX.C "cut_edge" "Graph.cut_edge" Cj ["self","a","b"]
 oq:MF K aX.C "put_mark" "Graph.put_mark" Cm ["self","number","name","text"]
 oI:MF K aX.C "far" "Graph.far" DZ ["self","a","b"]
 JW: ∃t,mg "NODE"=some (.int 0 t)
 JU: ∃t,mg "EDGE"=some (.int 1 t)
 Ky: ∃t,mg "CUT"=some (.int 2 t)
 JV: ∃t,mg "MARK"=some (.int 3 t)
 IY: ∃t,mg "QUERY"=some (.int 4 t)
 I_: ∃t,mg "WHERE"=some (.int 5 t)
 IX: ∃t,mg "PLAIN"=some (.int 6 t)
 JX: ∃t,mg "PATH"=some (.int 7 t)
 IW: ∃t,mg "ALIKE"=some (.int 8 t)
 Kz: ∃t,mg "FAR"=some (.int 9 t)
 bq:CF K mg "Feed" ["numbers","place"]
 oH:MF K bq.C "__init__" "Feed.__init__" DY ["self","numbers"]
 ow:MF K bq.C "is_empty" "Feed.is_empty" Cy ["self"]
 dC:MF K bq.C "take_number" "Feed.take_number" BR ["self"]
 cS:MF K bq.C "take_row" "Feed.take_row" Cz ["self"]
 qA:GF K mg "done_by_numbers" B_ ["graph","call","feed"]
 done:GF K mg "done" Jq ["graph","feed"]
 answer:GF K mg "answer" Gr ["graph","feed"]
 answers:GF K mg "answers" Ff ["calls"]
 IZ: ∃a,mg "SIGNS"=some (.ref a)/\KD K w a [(.inl 40,.str "("),(.inl 41,.str ")"),(.inl 44,.str ","),(.inl 43,.str "+"),(.inl 45,.str "-"),(.inl 38,.str "&"),(.inl 61,.str "=")]
 Dr: ∃a s0 s1 s2 s3 s4 s5 s6 s7 s8 s9,mg "CALL_SHAPES"=some (.ref a)/\KD K w a [(.inr "deps",.ref s0),(.inr "needers",.ref s1),(.inr "somepath",.ref s2),(.inr "allpaths",.ref s3),(.inr "kind",.ref s4),(.inr "filter",.ref s5),(.inr "mark",.ref s6),(.inr "leaves",.ref s7),(.inr "roots",.ref s8),(.inr "first",.ref s9)]/\ ∀H:Hp,bu K H s0 [.int 0,.int 1,.bl true]/\bu K H s1 [.int 0,.int 2,.bl true]/\bu K H s2 [.int 0,.int 2,.bl false]/\bu K H s3 [.int 0,.int 2,.bl false]/\bu K H s4 [.int 1,.int 1,.bl false]/\bu K H s5 [.int 1,.int 1,.bl false]/\bu K H s6 [.int 2,.int 1,.bl false]/\bu K H s7 [.int 0,.int 1,.bl false]/\bu K H s8 [.int 0,.int 1,.bl false]/\bu K H s9 [.int 0,.int 1,.bl false]
 y2:mg "range"=none
 dy:mg "len"=none
 J0:mg "any"=none
 JZ:mg "all"=none
 gN:mg "isinstance"=none
 Jf:mg "dict"=none
 DS:mg "enumerate"=none
 Ei:mg "reversed"=none
 HD:mg "tuple"=none
 Jg:mg "list"=none
 J3:mg "ord"=none
 J4:mg "str"=none
 NK:mg "ValueError"=none
 xq:subIn K iy.C cG.C=true
 BA:subIn K kQ.C cG.C=true
 xp:subIn K gM.C cG.C=true
 qy:subIn K eX.C cG.C=true
 BG:subIn K kR.C cG.C=true
 xm:subIn K dG.C cG.C=true
 B3:subIn K iB.C cG.C=true
 BP:subIn K dq.C cG.C=true
 BH:subIn K eN.C cG.C=true
 B2:subIn K iA.C cG.C=true
 xo:subIn K fK.C cG.C=true
 xn:subIn K aO.C cG.C=true
 Cu:subIn K iB.C eg.C=true
 Cd:subIn K dq.C eg.C=true
 B4:subIn K eN.C eg.C=true
 Ct:subIn K iA.C eg.C=true
 xr:subIn K fK.C eg.C=true
 Bs:subIn K dG.C dG.C=true
 NZ:iy.C≠aO.C
 NC:kQ.C≠aO.C
 NX:gM.C≠aO.C
 NY:eX.C≠aO.C
 NW:kR.C≠aO.C
 CH:dG.C≠aO.C
 EG:iB.C≠aO.C
 D_:dq.C≠aO.C
 DG:eN.C≠aO.C
 EF:iA.C≠aO.C
 xD:fK.C≠aO.C
 jO:zR K cG.C "__init__" f_.f
 pB:zR K eg.C "__init__" ja.f
 uA:PySem.W.kitOne K (.ref cq.C) (.ref bF.C)=some false
 uB:PySem.W.kitOne K (.ref cq.C) (.ref bO.C)=some false
 xA:PySem.W.kitOne K (.ref cq.C) (.ref cq.C)=some true
 MH:PySem.W.kitOne K (.ref cq.C) (.ref b_.C)=some false
 ur:PySem.W.kitOne K (.ref b_.C) (.ref bF.C)=some false
 uu:PySem.W.kitOne K (.ref b_.C) (.ref bO.C)=some false
 xu:PySem.W.kitOne K (.ref b_.C) (.ref cq.C)=some false
 xt:PySem.W.kitOne K (.ref b_.C) (.ref b_.C)=some true
 uX:PySem.W.kitOne K (.ref bF.C) (.ref bF.C)=some true
 EU:PySem.W.kitOne K (.ref bF.C) (.ref bO.C)=some false
 NI:PySem.W.kitOne K (.ref bF.C) (.ref cq.C)=some false
 M4:PySem.W.kitOne K (.ref bF.C) (.ref b_.C)=some false
 uY:PySem.W.kitOne K (.ref bO.C) (.ref bF.C)=some false
 uZ:PySem.W.kitOne K (.ref bO.C) (.ref bO.C)=some true
 NJ:PySem.W.kitOne K (.ref bO.C) (.ref cq.C)=some false
 M5:PySem.W.kitOne K (.ref bO.C) (.ref b_.C)=some false
 mq:PySem.W.kitOne K (.ref aU.C) (.ref bF.C)=some false
 mr:PySem.W.kitOne K (.ref aU.C) (.ref bO.C)=some false
 qI:PySem.W.kitOne K (.ref aU.C) (.ref cq.C)=some false
 qB:PySem.W.kitOne K (.ref aU.C) (.ref b_.C)=some false
end Bp
namespace L2
open PySem PySem.Spec PyProof.Rows
theorem Ends.d9{D:Ends}{u:TS}:(D.sq u).nx=u D:=rfl
theorem ai.cM{H H':Hp}{a:Addr}{o:HO}(s:ai H H')(h:H a=none):ai H (upd H' a o):=fun b u e=>by
 rw[aj (aR e h)];exact s b u e
theorem ai.new{H:Hp}{a:Addr}{o:HO}(h:H a=none):ai H (upd H a o):=ai.cM (ai.refl H) h
theorem ai.Am{K:FG}{H H':Hp}{a:Addr}{xs:List V}(e:ai H H')(h:bu K H a xs):bu K H' a xs:=by
 rcases h with(h |⟨o,h⟩) |h
 ·exact .inl (.inl (e _ _ h))
 ·exact .inl (.inr ⟨o,e _ _ h⟩)
 ·exact .inr h
theorem RH{K:FG}{a:Addr}{xs:List V}{g:TG}{tb:TS}{D:Ends}{σ:St}{H:Hp}(Pv:Nat->St->Hp->Prop)(h0:Pv 0 σ H)(hl: ∀i σ H,i<=xs.length->Pv i σ H->aA K H a xs)
  (hs: ∀i x σ H,xs.reverse[i]? =some x->Pv i σ H->g x σ H fun σ2 H2=>tb {D with nx:=Pv (i+1),ct:=Pv (i+1),bk:=D.nx} σ2 H2) (hd: ∀σ H,Pv xs.length σ H->D.nx σ H):
  ∃W:Nat->Nat->St->Hp->Prop,(∃m,W 0 m σ H)/\ ∀i m σ H,W i m σ H->
   ((sU K a xs.length).stop i H/\D.nx σ H)∨((sU K a xs.length).go i H/\ ∃N:St->Hp->Prop,(∀σ' H',N σ' H'-> ∃m',m'<m/\W (i+1) m' σ' H')/\ ∀x H',(sU K a xs.length).jH i H x H'->g x σ H' fun σ2 H2=>tb {D with nx:=N,ct:=N,bk:=D.nx} σ2 H2):=by
 refine⟨fun i m σ H=>m=xs.length-i/\i<=xs.length/\Pv i σ H,⟨xs.length,by simp,Nat.zero_le _,h0⟩,?_⟩;rintro i m σ H ⟨rfl,hi,p⟩;have q:=hl i σ H hi p
 by_cases aW:i<xs.length
 ·refine .inr ⟨⟨aW,xs,xs[xs.length-1-i]'(by omega),q,List.getElem?_eq_getElem (by omega)⟩,Pv (i+1),fun σ' H' p'=>⟨xs.length-(i+1),by omega,rfl,aW,p'⟩,fun x H' y=>?_⟩;obtain⟨e,y⟩:=y;subst e;refine hs i x σ _ ?_ p;rw[List.getElem?_reverse aW];exact y xs q
 ·have e:i=xs.length:=by omega
  subst e;exact .inl ⟨Nat.le_refl _,hd σ H p⟩
theorem Qo{K:FG}{a:Addr}{xs:List V}{g:TG}{tb:TS}{D:Ends}{σ:St}{H:Hp}(Pv:Nat->St->Hp->Prop)(h0:Pv 0 σ H)(hl: ∀i σ H,i<=xs.length->Pv i σ H->aA K H a xs)
  (hs: ∀i x σ H T,xs[i]? =some x->Pv i σ H->H T=none->g (.ref T) σ (upd H T (.tup [.int (i:Nat),x])) fun σ2 H2=>tb {D with nx:=Pv (i+1),ct:=Pv (i+1),bk:=D.nx} σ2 H2) (hd: ∀σ H,Pv xs.length σ H->D.nx σ H):
  ∃W:Nat->Nat->St->Hp->Prop,(∃m,W 0 m σ H)/\ ∀i m σ H,W i m σ H->
   ((sQ K a).stop i H/\D.nx σ H)∨((sQ K a).go i H/\ ∃N:St->Hp->Prop,(∀σ' H',N σ' H'-> ∃m',m'<m/\W (i+1) m' σ' H')/\ ∀x H',(sQ K a).jH i H x H'->g x σ H' fun σ2 H2=>tb {D with nx:=N,ct:=N,bk:=D.nx} σ2 H2):=by
 refine⟨fun i m σ H=>m=xs.length-i/\i<=xs.length/\Pv i σ H,⟨xs.length,by simp,Nat.zero_le _,h0⟩,?_⟩;rintro i m σ H ⟨rfl,hi,p⟩;have q:=hl i σ H hi p
 by_cases aW:i<xs.length
 ·refine .inr ⟨⟨xs,xs[i],q,by simp [aW]⟩,Pv (i+1),fun σ' H' p'=>⟨xs.length-(i+1),by omega,rfl,aW,p'⟩,fun x H' y=>?_⟩;obtain⟨T,y1,rfl,hT,rfl,y⟩:=y;exact hs i y1 σ H T (y xs q) p hT
 ·have e:i=xs.length:=by omega
  subst e;exact .inl ⟨⟨xs,q,Nat.le_refl _⟩,hd σ H p⟩
end L2
namespace Bp
open PySem PySem.Spec PyProof.Rows L2 Bq
variable{K:FG}{mg:Str->Option Value}{w:World}{P:Program}{base:Heap}{cs:Addr}
theorem hide{G:Prop}(h: ∀G':Prop,(G->G')->G'):G:=h G id
theorem sH{α:Type}{l:List α}{n:Nat}(h:l.length=n+1): ∃a r,l=a::r/\r.length=n:=by
 cases l with
 |nil=>cases h
 |cons a r=>exact⟨a,r,rfl,Nat.succ.inj h⟩
theorem ke{α:Type}{l:List α}(h:l.length=1): ∃a,l=[a]:=let⟨a,_,e,k⟩:=sH h;⟨a,by rw[e,List.eq_nil_of_length_eq_zero k]⟩
theorem sF{α:Type}{l:List α}(h:l.length=2): ∃a b,l=[a,b]:=let⟨a,_,e,k⟩:=sH h;let⟨b,q⟩:=ke k;⟨a,b,by rw[e,q]⟩
theorem wc{α:Type}{l:List α}(h:l.length=3): ∃a b c,l=[a,b,c]:=let⟨a,_,e,k⟩:=sH h;let⟨b,c,q⟩:=sF k;⟨a,b,c,by rw[e,q]⟩
theorem sG{α:Type}{l:List α}(h:l.length=4): ∃a b c d,l=[a,b,c,d]:=let⟨a,_,e,k⟩:=sH h;let⟨b,c,d,q⟩:=wc k;⟨a,b,c,d,by rw[e,q]⟩
theorem KC{α:Type}{l:List α}(h:l.length=5): ∃a b c d f,l=[a,b,c,d,f]:=let⟨a,_,e,k⟩:=sH h;let⟨b,c,d,f,q⟩:=sG k;⟨a,b,c,d,f,by rw[e,q]⟩
theorem RU{X:Cx}:sW X "int.bit_length" (fun x xs H Q=> ∃i,x= .int i/\xs=[]/\Q (.int (Builtin.Int.intBits i)) H):=by
 rintro aa s σ H x xs v us Q I r rs ⟨i,rfl,rfl,q⟩;obtain⟨t,rfl⟩:=r;cases rs;exact call_int_bit_length ⟨.int _,H,I.tok _,⟨_,rfl⟩,q⟩
theorem yes{σ:L2.St}{H:Hp}{A B:Hp->Prop}(h:A H):K4 σ H (fun b H3=>if b=true then A H3 else B H3):=by
 show if true=true then A H else B H
 rw[if_pos rfl];exact h
def eD(H:Hp)(xs:List V)(Q:VK):Prop:= ∀(H':Hp)(l:Addr),ai H H'->H l=none->H' l=some (.lst xs)->Q (.ref l) H'
abbrev nums(l:List Nat):List V:=l.map fun(i:Nat)=>V.int (i:Int)
theorem a8(l:List Nat):(nums l).length=l.length:=List.length_map ..
theorem eZ(l r:List Nat):nums (l++r)=nums l++nums r:=List.map_append
theorem rk(l:List Nat)(i:Nat):nums (l++[i])=nums l++[.int (i:Int)]:=eZ ..
theorem yP(l:List Nat)(i m:Nat):nums (l.set i m)=(nums l).set i (.int (m:Int)):=List.map_set ..
theorem iE{l:List Nat}{i:Nat}{x:V}(h:(nums l)[i]? =some x): ∃m,l[i]? =some m/\x= .int (m:Int):=by
 rw[List.getElem?_map] at h;cases e:l[i]? with
 |none=>rw[e] at h;cases h
 |some m=>rw[e] at h;exact⟨m,rfl,(Option.some.inj h).symm⟩
theorem e_{l:List Nat}{i m:Nat}(h:l[i]? =some m):(nums l)[i]? =some (.int (m:Int)):=by rw[List.getElem?_map,h];rfl
theorem JM{i j:Int}:decide (V.int i=V.int j)=decide (i=j):=by
 by_cases h:i=j
 ·rw[decide_eq_true h,decide_eq_true (by rw[h])]
 ·rw[decide_eq_false h,decide_eq_false fun q=>h (V.int.inj q)]
theorem take_snoc{α:Type}: ∀{l:List α}{i:Nat}{x:α},l[i]? =some x->l.take (i+1)=l.take i++[x]
 |[],i,x,h=>by simp at h
 |a::l,0,x,h=>by
  have e:a=x:=Option.some.inj h;subst e;rfl
 |a::l,i+1,x,h=>by
  have ih:=take_snoc (l:=l) (i:=i) (x:=x) h;show a::l.take (i+1)=a::l.take i++[x];rw[ih];rfl
theorem EN(i m:Nat):bits (i+1) m=if m.testBit i=true then bits i m++[i] else bits i m:=by
 unfold bits;rw[List.range_succ,List.filter_append,List.filter_cons,List.filter_nil]
 by_cases h:m.testBit i=true
 ·rw[if_pos h,if_pos h]
 ·rw[if_neg h,if_neg h,List.append_nil]
theorem kf{n:Nat}(h:n<=64):n<sizeLine:=Nat.lt_of_le_of_lt h (by decide)
theorem mZ{n m:Nat}(h:m<2^n)(hn:n<=64):m<2^64:=Nat.lt_of_lt_of_le h (Nat.pow_le_pow_right (by decide) hn)
theorem mB{n m:Nat}(h:m<2^n)(hn:n<=64):bits 64 m=bits n m:=EM h hn
theorem getD_at{l:List Nat}{i m:Nat}(h:l[i]? =some m):l.getD i 0=m:=by rw[List.getD_eq_getElem?_getD,h];rfl
theorem oO{l:List Nat}{i:Nat}(h:i<l.length):l[i]? =some (l.getD i 0):=by
 rw[List.getD_eq_getElem?_getD,List.getElem?_eq_getElem h];rfl
theorem Vm{i:Nat}(h:i<=1000):Kj 1 (i:Int):=⟨by omega,by omega,by decide⟩
section
variable{X:Cx}
theorem mJ:bJ X (binaryOp .BitOr) (fun x y H Q=> ∃a b:Nat,x= .int (a:Int)/\y= .int (b:Int)/\Q (.int ((a ||| b:Nat):Int)) H):=by
 rintro aa s σ H x y v u Q I rx ry ⟨a,b,ex,ey,q⟩;exact UN aa s σ H x y v u Q I rx ry ⟨a,b,ex,ey,by show Q (.int (Builtin.bitOr _ _)) H;rw[TC];exact q⟩
theorem rT:bJ X (binaryOp .BitAnd) (fun x y H Q=> ∃a b:Nat,x= .int (a:Int)/\y= .int (b:Int)/\Q (.int ((a&&&b:Nat):Int)) H):=by
 rintro aa s σ H x y v u Q I rx ry ⟨a,b,ex,ey,q⟩;exact vJ aa s σ H x y v u Q I rx ry ⟨a,b,ex,ey,by show Q (.int (Builtin.bitAnd _ _)) H;rw[Hb];exact q⟩
theorem u5:bJ X (binaryOp .BitAnd) (fun x y H Q=> ∃a b:Nat,x= .int (a:Int)/\y= .int (Builtin.bitNot (b:Int))/\Q (.int ((minus a b:Nat):Int)) H):=by
 rintro aa s σ H x y v u Q I rx ry ⟨a,b,ex,ey,q⟩;exact vJ aa s σ H x y v u Q I rx ry ⟨_,_,ex,ey,by show Q (.int (Builtin.bitAnd _ _)) H;rw[OI];exact q⟩
theorem jh:bJ X (binaryOp .LShift) (fun x y H Q=> ∃i:Nat,x= .int 1/\y= .int (i:Int)/\i<=1000/\Q (.int ((2^i:Nat):Int)) H):=by
 rintro aa s σ H x y v u Q I rx ry ⟨i,ex,ey,hi,q⟩;exact TB aa s σ H x y v u Q I rx ry ⟨1,i,ex,ey,Vm hi,by show Q (.int ((1:Int)*2^((i:Int).toNat))) H;rw[Sy];exact q⟩
theorem dE:bJ X (compareOp .Eq) (fun x y H Q=> ∃a b:Nat,x= .int (a:Int)/\y= .int (b:Int)/\Q (.bl (decide (a=b))) H):=by
 rintro aa s σ H x y v u Q I rx ry ⟨a,b,rfl,rfl,q⟩;refine dP aa s σ H _ _ v u Q I rx ry ⟨rfl,?_⟩;have e:decide (V.int (a:Int)=V.int (b:Int))=decide (a=b):=by
  by_cases h:a=b
  ·rw[decide_eq_true h,decide_eq_true (by rw[h])]
  ·rw[decide_eq_false h,decide_eq_false fun q=>h (Int.natCast_inj.mp (V.int.inj q))]
 rw[e];exact q
theorem zm:bJ X (compareOp .NotEq) (fun x y H Q=> ∃a b:Nat,x= .int (a:Int)/\y= .int (b:Int)/\Q (.bl (!decide (a=b))) H):=by
 rintro aa s σ H x y v u Q I rx ry ⟨a,b,rfl,rfl,q⟩;refine zJ aa s σ H _ _ v u Q I rx ry ⟨rfl,?_⟩;have e:decide (V.int (a:Int)=V.int (b:Int))=decide (a=b):=by
  by_cases h:a=b
  ·rw[decide_eq_true h,decide_eq_true (by rw[h])]
  ·rw[decide_eq_false h,decide_eq_false fun q=>h (Int.natCast_inj.mp (V.int.inj q))]
 rw[e];exact q
theorem ll:zS X .Add (fun x y H Q=> ∃a b:Nat,x= .int (a:Int)/\y= .int (b:Int)/\Q (.int ((a+b:Nat):Int)) H):=by
 rintro aa s σ H x y u v Q I rx ry ⟨a,b,ex,ey,q⟩;exact Tb aa s σ H x y u v Q I rx ry ⟨a,b,ex,ey,by rw[show((a:Int)+(b:Int))=((a+b:Nat):Int) from by omega];exact q⟩
theorem iI:bJ X (binaryOp .Add) (fun x y H Q=> ∃a b:Nat,x= .int (a:Int)/\y= .int (b:Int)/\Q (.int ((a+b:Nat):Int)) H):=by
 rintro aa s σ H x y u v Q I rx ry ⟨a,b,ex,ey,q⟩;exact Ji aa s σ H x y u v Q I rx ry ⟨a,b,ex,ey,by show Q (.int ((a:Int)+(b:Int))) H;rw[show((a:Int)+(b:Int))=((a+b:Nat):Int) from by omega];exact q⟩
end
inductive Fw(vs:List V)(H:Hp)(Q:VK)(E:XK):Prop
 |mk(m:Nat):vs=[.int m]->m<2^64->eD H (nums (bits 64 m)) Q->Fw vs H Q E
inductive GK(K:FG)(vs:List V)(H:Hp)(Q:VK)(E:XK):Prop
 |mk(a:Addr)(l:List Nat):vs=[.ref a]->aA K H a (nums l)->(∀x∈l,x<64)->Q (.int (maskOf l)) H->GK K vs H Q E
inductive EB(vs:List V)(H:Hp)(Q:VK)(E:XK):Prop
 |mk(m:Nat):vs=[.int m]->m<2^64->m≠0->(∀H',ai H H'->Q (.int (low 64 m)) H')->EB vs H Q E
structure gT(K:FG)(H:Hp)(a:Addr)(needs:List Nat)(n:Nat):Prop where
 at_:aA K H a (nums needs)
 len:needs.length=n
 low: ∀m∈needs,m<2^n
 le:n<=64
theorem gT.same{K:FG}{H H':Hp}{a:Addr}{needs:List Nat}{n:Nat}(N:gT K H a needs n)(s:ai H H'):gT K H' a needs n:=⟨s.seq N.at_,N.len,N.low,N.le⟩
inductive Jx(K:FG)(vs:List V)(H:Hp)(Q:VK)(E:XK):Prop
 |mk(a:Addr)(needs:List Nat)(n m:Nat):vs=[.ref a,.int m]->gT K H a needs n->m<2^n->(∀H',ai H H'->Q (.int (nextM needs (bits n m))) H')->Jx K vs H Q E
inductive GU(K:FG)(vs:List V)(H:Hp)(Q:VK)(E:XK):Prop
 |mk(a:Addr)(needs:List Nat)(n:Nat):vs=[.ref a]->gT K H a needs n->eD H (nums (flipped n needs)) Q->GU K vs H Q E
def iQ:Option Nat->V
 |none=> .aN
 |some l=> .int (l:Int)
inductive Fy(K:FG)(vs:List V)(H:Hp)(Q:VK)(E:XK):Prop
 |mk(a:Addr)(needs:List Nat)(n m:Nat)(k:Option Nat):vs=[.ref a,.int m,iQ k]->gT K H a needs n->m<2^n->(∀H' i,ai H H'->fP needs n k i m->Q (.int (runM needs n i m)) H')->Fy K vs H Q E
def SS(back:List Nat)(n s t:Nat)(ls:List Nat):Prop:=
 (∃k,(∀j,j<=k->lay back n t j≠0)/\(∀j,j<k->lay back n t j&&&s=0)/\lay back n t k&&&s≠0/\ls=(List.range (k+1)).map (lay back n t))∨
 (∃k,(∀j,j<k->lay back n t j&&&s=0)/\lay back n t k=0/\ls=[])
inductive GI(K:FG)(vs:List V)(H:Hp)(Q:VK)(E:XK):Prop
 |mk(a:Addr)(needs:List Nat)(n s t:Nat):vs=[.ref a,.int s,.int t]->gT K H a needs n->s<2^n->t<2^n->(∀ls,SS (flipped n needs) n s t ls->eD H (nums ls) Q)->GI K vs H Q E
inductive GD(K:FG)(vs:List V)(H:Hp)(Q:VK)(E:XK):Prop
 |mk(a:Addr)(needs:List Nat)(g:VG)(s t:Nat):vs=[.ref a,.int s,.int t]->gT K H a needs g.length->cX g needs->s<2^g.length->t<2^g.length->eD H (nums (Vabldl.chosen g (bits g.length s) (bits g.length t))) Q->GD K vs H Q E
theorem oM(t:Tx K mg w):aB P w K mg base (aC P w cs) 5 t.members.f t.members.fd ["mask"] Fw:=by
 refine t.members.F.aJ true yc (fun vs H Q E h=>?_) (fun ay A outer s H vs Q E hr h=>?_)
 ·obtain⟨m,rfl,_⟩:=h;rfl
 ·obtain⟨m,rfl,hm,k⟩:=h;refine⟨_,ao (aD (lG (own:=[("number",1)]) rfl yc.nd (E7 (by rfl) t.y2 (ae (TJ PySem.F.plainAttrs_int PySem.F.slot_int_bit_length PySem.F.type_int_bit_length RU (pv 0)) ag)) (gS rfl)
   (fun _ _ _ _ _=>dc (i:=1) yc.nd rfl (Or.inl rfl)) (fun _ _ _ _ _=>y9 (bg dP (a0 vJ (a0 Jl (pv 0) (pv 1)) aM) aM (bc _))) (fun _ _ _ _ _=>pv 1))),?_⟩
  have hb:Builtin.Int.intBits (m:Int)<=64:=Jb hm;refine⟨_,rfl,rfl,_,rfl,rfl,_,rfl,(by omega),(by omega),fun D hD=>?_⟩;refine F6 (lo:=0) (fun i H'=>ai H H'/\H' D=some (.lst (nums (bits i m)))) ⟨ai.new hD,au⟩ (fun i H' hi ⟨hs,hl⟩=>?_) (fun H' ⟨hs,hl⟩=>k H' D hs hD ?_)
  ·rw[Int.toNat_natCast] at hi;refine⟨rfl,_,rfl,_,rfl,_,_,rfl,rfl,(by show(0:Int)<=0+i;omega),_,_,rfl,rfl,rfl,_,rfl,?_⟩;rw[JM,Int.zero_add,Hf];refine Kx (fun dR=>⟨_,rfl,_,hl,?_,ai.cM hs hD,?_⟩) fun dR=>⟨hs,?_⟩
   ·rw[a8];exact Nat.lt_of_le_of_lt (jl i m) (kf (by omega))
   ·rw[au,EN,if_pos dR,rk]
   ·rw[EN,if_neg dR];exact hl
  ·rw[hl,Int.toNat_natCast,Qc hm]
theorem DQ(l:List Nat)(i:Nat):maskOf (l++[i])=maskOf l ||| 2^i:=by
 unfold maskOf;rw[List.foldl_append];rfl
theorem x9(t:Tx K mg w):aB P w K mg base (aC P w cs) 5 t.mE.f t.mE.fd ["numbers"] (GK K):=by
 refine t.mE.F.aJ true uQ (fun vs H Q E h=>?_) (fun ay A outer s H vs Q E hr h=>?_)
 ·obtain⟨a,l,rfl,_⟩:=h;rfl
 ·obtain⟨a,l,rfl,hS,hl,k⟩:=h;refine⟨_,ak (aT 1 uQ.nd aM)
   (ak (jW eu rfl (gf (pv 0)) (dc (i:=2) uQ.nd rfl (Or.inl rfl)) (ao (aT 1 uQ.nd (a0 mJ (pv 1) (a0 jh aM (pv 2))))))
   (ao (aD (pv 1)))),?_⟩
  refine⟨_,rfl,a,rfl,⟨_,hS⟩,mz (K:=K) (a:=a) (xs:=nums l) (fun i σ H'=>H'=H/\ ∃v:Option V,σ=[some (.ref a),some (.int (maskOf (l.take i))),v]) ⟨rfl,none,rfl⟩ (fun i σ H' _ ⟨e,_⟩=>by rw[e];exact hS) ?_ ?_⟩
  ·rintro i y σ H' hi ⟨rfl,v,rfl⟩;obtain⟨m,hm,rfl⟩:=iE hi;have YO:=hl m (List.mem_of_getElem? hm);refine⟨_,rfl,_,rfl,m,rfl,rfl,(by omega),_,_,rfl,rfl,rfl,some (.int m),?_⟩;rw[take_snoc hm,DQ];rfl
  ·rintro σ H' ⟨rfl,v,rfl⟩;refine⟨_,rfl,?_⟩;rw[a8,List.take_length];exact k
theorem DV(t:Tx K mg w):aB P w K mg base (aC P w cs) 6 t.pf.f t.pf.fd ["mask"] EB:=by
 refine t.pf.F.aJ true OD (fun vs H Q E h=>?_) (fun ay A outer s H vs Q E hr h=>?_)
 ·obtain⟨m,rfl,_⟩:=h;rfl
 ·obtain⟨m,rfl,hm,h0,k⟩:=h;refine⟨_,ao (aD (cf d5 (aK t.members (oM t) hr aE.passes (ae (pv 0) ag)) aM (fun _ _=>rfl))),?_⟩;refine⟨_,rfl,m,rfl,hm,fun H' l hs hl e=>?_⟩;obtain⟨a,r,ea,_⟩:=kY hm h0;have e2:low 64 m=a:=by unfold low;rw[ea];rfl
  refine⟨l,_,_,_,rfl,rfl,aA.of e,at_of (j:=0) rfl (by rw[ea];rfl),?_⟩;rw[<-e2];exact k H' hs
theorem O1(needs l:List Nat)(a:Nat):nextM needs (l++[a])=nextM needs l ||| needs.getD a 0:=by
 unfold nextM;rw[List.foldl_append];rfl
theorem C3(t:Tx K mg w):aB P w K mg base (aC P w cs) 6 t.oK.f t.oK.fd ["needs","mask"] (Jx K):=by
 refine t.oK.F.aJ true uy (fun vs H Q E h=>?_) (fun ay A outer s H vs Q E hr h=>?_)
 ·obtain⟨a,needs,n,m,rfl,_⟩:=h;rfl
 ·obtain⟨a,needs,n,m,rfl,N,hm,k⟩:=h;refine⟨_,ak (aT 2 uy.nd aM)
   (ak (jW eu rfl (gf (aK t.members (oM t) hr aE.passes (ae (pv 1) ag))) (dc (i:=3) uy.nd rfl (Or.inl rfl))
    (ao (aT 2 uy.nd (a0 mJ (pv 2) (cf d5 (pv 0) (pv 3) (fun _ _=>rfl))))))
   (ao (aD (pv 2)))),?_⟩
  refine⟨_,rfl,m,rfl,mZ hm N.le,fun H1 l dm gD e1=>⟨l,rfl,⟨_,aA.of e1⟩,?_⟩⟩;rw[mB hm N.le] at e1;refine mz (K:=K) (a:=l) (xs:=nums (bits n m)) (fun i σ H'=>H'=H1/\ ∃v:Option V,σ=[some (.ref a),some (.int m),some (.int (nextM needs ((bits n m).take i))),v]) ⟨rfl,none,rfl⟩ (fun i σ H' _ ⟨e,_⟩=>by rw[e];exact aA.of e1) ?_ ?_
  ·rintro i y σ H' hi ⟨rfl,v,rfl⟩;obtain⟨x,hx,rfl⟩:=iE hi;have A0:=(dI.mp (List.mem_of_getElem? hx)).1;refine⟨_,rfl,_,rfl,_,rfl,a,_,_,_,rfl,rfl,(N.same dm).at_,at_of (j:=x) rfl (e_ (oO (by rw[N.len];exact A0))),_,_,rfl,rfl,rfl,some (.int x),?_⟩;rw[take_snoc hx,O1];rfl
  ·rintro σ H' ⟨rfl,v,rfl⟩;refine⟨_,rfl,?_⟩;rw[a8,List.take_length];exact k _ dm
def jm(n:Nat)(needs:List Nat)(i:Nat):List Nat:=(List.range n).map fun b=>maskOf ((List.range i).filter fun a=>(needs.getD a 0).testBit b)
theorem N_(n:Nat)(needs:List Nat)(i:Nat):jm n needs (i+1)=(List.range n).map fun b=>if(needs.getD i 0).testBit b=true then maskOf ((List.range i).filter fun a=>(needs.getD a 0).testBit b) ||| 2^i else maskOf ((List.range i).filter fun a=>(needs.getD a 0).testBit b):=by
 unfold jm;refine List.map_congr_left fun b _=>?_;rw[List.range_succ,List.filter_append,List.filter_cons,List.filter_nil]
 by_cases h:(needs.getD i 0).testBit b=true
 ·rw[if_pos h,if_pos h,DQ]
 ·rw[if_neg h,if_neg h,List.append_nil]
def iH(n:Nat)(needs:List Nat)(i:Nat)(l:List Nat):List Nat:=(List.range n).map fun b=>if l.contains b=true then maskOf ((List.range i).filter fun a=>(needs.getD a 0).testBit b) ||| 2^i else maskOf ((List.range i).filter fun a=>(needs.getD a 0).testBit b)
theorem N8(n:Nat)(needs:List Nat)(i:Nat):iH n needs i []=jm n needs i:=by
 unfold iH jm;exact List.map_congr_left fun b _=>if_neg (by simp)
theorem xO{n b:Nat}(needs:List Nat)(i:Nat)(l:List Nat)(hb:b<n):(iH n needs i l)[b]? =some (if l.contains b=true then maskOf ((List.range i).filter fun a=>(needs.getD a 0).testBit b) ||| 2^i else maskOf ((List.range i).filter fun a=>(needs.getD a 0).testBit b)):=by
 unfold iH;rw[List.getElem?_map,List.getElem?_range hb];rfl
theorem uG(n:Nat)(needs:List Nat)(i:Nat)(l:List Nat):(iH n needs i l).length=n:=by
 unfold iH;rw[List.length_map,List.length_range]
theorem N9{n b:Nat}(needs:List Nat)(i:Nat)(l:List Nat)(hb:b<n)(hn:l.contains b=false):(iH n needs i l).set b (maskOf ((List.range i).filter fun a=>(needs.getD a 0).testBit b) ||| 2^i)=iH n needs i (l++[b]):=by
 refine List.ext_getElem? fun c=>?_
 by_cases hc:c<n
 ·rw[xO needs i (l++[b]) hc]
  by_cases e:b=c
  ·subst e;rw[List.getElem?_set_self (by rw[uG];exact hb),if_pos (by simp)]
  ·rw[List.getElem?_set_ne e,xO needs i l hc];have q:(l++[b]).contains c=l.contains c:=by
    rw[Bool.eq_iff_iff,List.contains_iff_mem,List.contains_iff_mem];simp [Ne.symm e]
   rw[q]
 ·rw[List.getElem?_eq_none (by rw[List.length_set,uG];omega),List.getElem?_eq_none (by rw[uG];omega)]
theorem N7{n:Nat}{needs:List Nat}{i:Nat}(h:needs.getD i 0<2^n):iH n needs i (bits n (needs.getD i 0))=jm n needs (i+1):=by
 rw[N_];unfold iH;exact List.map_congr_left fun b hb=>by rw[eY h]
theorem Np{l:List Nat}(hn:l.Nodup){i x:Nat}(h:l[i]? =some x):(l.take i).contains x=false:=by
 refine Bool.eq_false_iff.mpr fun q=>?_;obtain⟨j,hj⟩:=List.getElem?_of_mem (List.contains_iff_mem.mp q);have AL:j<i:=by
  have:=(List.getElem?_eq_some_iff.mp hj).1;rw[List.length_take] at this;omega
 rw[List.getElem?_take_of_lt AL] at hj;have:=J5 hn hj h;omega
theorem OK(n m:Nat):(bits n m).Nodup:=List.Nodup.sublist List.filter_sublist List.nodup_range
theorem yp(t:Tx K mg w):aB P w K mg base (aC P w cs) 6 t.turned.f t.turned.fd ["needs"] (GU K):=by
 refine t.turned.F.aJ true oW (fun vs H Q E h=>?_) (fun ay A outer s H vs Q E hr h=>?_)
 ·obtain⟨a,needs,n,rfl,_⟩:=h;rfl
 ·obtain⟨a,needs,n,rfl,N,k⟩:=h;refine⟨_,ak (yR (i:=1) (own:=[("row",3)]) rfl oW.nd rfl rfl (zd rfl rfl rfl rfl) (gf (pv 0)) (gS rfl) (fun _ _ _ _ _=>dc (i:=3) oW.nd rfl (Or.inl rfl)) (fun _ _ _ _ _=>jT) (fun _ _ _ _ _=>aM))
   (ak (jW eu rfl (Sj rfl t.DS (ae (pv 0) ag)) (zp rfl (pd (dc (i:=2) oW.nd rfl (Or.inl rfl)) (pd (dc (i:=3) oW.nd rfl (Or.inl rfl)) y6)))
    (ao (jW eu rfl (gf (aK t.members (oM t) hr aE.passes (ae (pv 3) ag))) (dc (i:=4) oW.nd rfl (Or.inl rfl))
     (ao (zt (a0 mJ (cf d5 (pv 1) (pv 4) (fun _ _=>rfl)) (a0 jh aM (pv 2))) (zo (pv 1) (pv 4) set_list))))))
   (ao (aD (pv 1)))),?_⟩
  refine⟨_,rfl,a,rfl,⟨_,N.at_⟩,fun D hD=>?_⟩;refine mD (K:=K) (a:=a) (xs:=nums needs) (fun i H'=>ai H H'/\H' D=some (.lst (List.replicate i (.int 0)))) ⟨ai.new hD,au⟩ (fun i H' _ ⟨hs,_⟩=>hs.seq N.at_) (fun i x H' hi ⟨hs,hl⟩=>?_) (fun H1 ⟨dm,gD⟩=>?_)
  ·refine⟨rfl,yes ?_⟩;have p9:=(List.getElem?_eq_some_iff.mp hi).1;rw[a8,N.len] at p9;refine⟨_,hl,?_,ai.cM hs hD,?_⟩
   ·rw[List.length_replicate];exact kf (by have:=N.le;omega)
   ·rw[au,List.replicate_succ']
  ·rw[a8,N.len] at gD;have z0:nums (jm n needs 0)=List.replicate n (.int 0):=by
    unfold jm;refine List.ext_getElem? fun c=>?_;rw[List.getElem?_map,List.getElem?_map,List.getElem?_replicate]
    by_cases hc:c<n
    ·rw[List.getElem?_range hc,if_pos hc];rfl
    ·rw[if_neg hc,List.getElem?_eq_none (by rw[List.length_range];omega)];rfl
   rw[<-z0] at gD;refine⟨_,rfl,a,_,rfl,dm.seq N.at_,Qo (K:=K) (a:=a) (xs:=nums needs) (fun i σ H'=>ai H H'/\H' D=some (.lst (nums (jm n needs i)))/\ ∃v2 v3 v4:Option V,σ=[some (.ref a),some (.ref D),v2,v3,v4]) ⟨dm,gD,_,_,_,rfl⟩ (fun i σ H' _ ⟨hs,_⟩=>hs.seq N.at_) ?_ ?_⟩
   ·rintro i y σ H' T hi ⟨hs,hl,v2,v3,v4,rfl⟩ hT;obtain⟨row,lN,rfl⟩:=iE hi;have p9:i<n:=by
     have:=(List.getElem?_eq_some_iff.mp lN).1;rw[N.len] at this;exact this
    have er:needs.getD i 0=row:=getD_at lN;have fR:row<2^n:=N.low row (List.mem_of_getElem? lN);have LZ:D≠T:=aR hl hT;refine⟨T,_,rfl,bu.of au,rfl,_,_,rfl,_,_,rfl,rfl,?_⟩;refine⟨_,rfl,row,rfl,mZ fR N.le,fun H2 l aY bP e2=>⟨l,rfl,⟨_,aA.of e2⟩,?_⟩⟩;rw[mB fR N.le] at e2;have sT:ai H (upd H' T (.tup [.int (i:Nat),.int row])):=fun b u e=>by
     rw[aj (fun q=>by subst q;have:=hs b u e;rw[hT] at this;cases this)];exact hs b u e
    have WN:H2 D=some (.lst (nums (jm n needs i))):=aY D _ (by rw[aj LZ];exact hl);have XX:D≠l:=fun q=>by
     have z:(upd H' T (.tup [.int (i:Nat),.int row])) D=some (.lst (nums (jm n needs i))):=by rw[aj LZ];exact hl
     rw[q,bP] at z;cases z
    refine mz (K:=K) (a:=l) (xs:=nums (bits n row)) (fun j σ H3=>ai H H3/\H3 D=some (.lst (nums (iH n needs i ((bits n row).take j))))/\H3 l=some (.lst (nums (bits n row)))/\ ∃v4:Option V,σ=[some (.ref a),some (.ref D),some (.int (i:Nat)),some (.int row),v4])
     ⟨sT.trans aY,by rw[List.take_zero,N8];exact WN,e2,_,rfl⟩ (fun j σ H3 _ ⟨_,_,e3,_⟩=>aA.of e3) ?_ ?_
    ·rintro j y σ H3 hj ⟨s3,tu,e3,v4,rfl⟩;obtain⟨b,hb,rfl⟩:=iE hj;have wM:=(dI.mp (List.mem_of_getElem? hb)).1;have Ku:=Np (OK n row) hb;have pP:=xO needs i ((bits n row).take j) wM;rw[if_neg (by rw[Ku];exact Bool.false_ne_true)] at pP;refine⟨_,rfl,_,rfl,D,_,_,_,rfl,rfl,aA.of tu,at_of (j:=b) rfl (e_ pP),_,rfl,i,rfl,rfl,(by have:=N.le;omega),_,_,rfl,rfl,_,rfl,_,rfl,D,_,_,b,rfl,rfl,tu,?_,?_⟩
     ·show i5 (nums _).length (b:Int)=some b;unfold i5;rw[a8,uG,if_pos (by omega),if_pos (by omega)];simp
     ·refine⟨ai.cM s3 hD,?_,by rw[aj (Ne.symm XX)];exact e3,_,rfl⟩;rw[au,take_snoc hb,<-N9 needs i _ wM Ku,yP]
    ·rintro σ H3 ⟨s3,tu,e3,v4,rfl⟩;rw[a8,List.take_length,<-er,N7 (by rw[er];exact fR)] at tu;exact⟨s3,tu,_,_,_,rfl⟩
   ·rintro σ H' ⟨hs,hl,v2,v3,v4,rfl⟩;refine⟨_,rfl,?_⟩;rw[a8,N.len] at hl;exact k H' D hs hD hl
theorem QA{k0:Option Nat}{i:Nat}{Q:Bool->Hp->Prop}{H:Hp}{σ:L2.St}(h2:σ[2]? =some (some (iQ k0)))(h3:σ[3]? =some (some (.int (i:Int))))(ht:(∀l,k0=some l->i<l)->Q true H)(hf: ∀l,k0=some l->l<=i->Q false H):
  Mf (tB (K3 (dU 2))) (sA (jG (i7 fun i j=> .bl (decide (i<j))) (dU 3) (dU 2))) σ H Q:=by
 cases k0 with
 |none=>exact⟨_,h2,_,rfl,pR (ht fun l e=>by cases e)⟩
 |some l=>
  refine⟨_,h2,_,rfl,kb ⟨_,h3,_,h2,_,_,rfl,rfl,_,rfl,?_⟩⟩
  by_cases h:i<l
  ·rw[decide_eq_true (show(i:Int)<(l:Int) by omega)];exact ht fun l' e=>by cases e;exact h
  ·rw[decide_eq_false (show ¬(i:Int)<(l:Int) by omega)];exact hf l rfl (by omega)
theorem x_(t:Tx K mg w):aB P w K mg base (aC P w cs) 7 t.reached.f t.reached.fd ["needs","mask","limit"] (Fy K):=by
 refine t.reached.F.aJ true rb (fun vs H Q E h=>?_) (fun ay A outer s H vs Q E hr h=>?_)
 ·obtain⟨a,needs,n,m,k,rfl,_⟩:=h;rfl
 ·obtain⟨a,needs,n,m,k0,rfl,N,hm,k⟩:=h;refine⟨_,ak (aT 3 rb.nd aM)
   (ak (jQ eu (PW.pt (v7 (vO (TH (pv 2))) (vP (bg zI (pv 3) (pv 2) (bc _)))))
    (ak (aT 4 rb.nd (a0 mJ (pv 1) (aK t.oK (C3 t) hr aE.passes (ae (pv 0) (ae (pv 1) ag)))))
    (ak (a9 (bg dE (pv 4) (pv 1) (bc _)) (ao Q3) a_)
    (ak (aT 1 rb.nd (pv 4))
    (ao (vM (i:=3) rb.nd rfl (Or.inl rfl) aM ll))))))
   (ao (aD (pv 1)))),?_⟩
  have low: ∀i,runM needs n i m<2^n:=jj N.low hm;refine⟨fun kk σ H'=>ai H H'/\ ∃(i:Nat)(v:Option V),σ=[some (.ref a),some (.int (runM needs n i m:Nat)),some (iQ k0),some (.int (i:Nat)),v]/\(∀l,k0=some l->i<=l)/\kk=n+1-cnt n (runM needs n i m),⟨_,ai.refl H,0,none,rfl,fun l _=>Nat.zero_le _,rfl⟩,?_⟩;rintro kk σ H' ⟨hs,i,v,rfl,hi,rfl⟩;refine QA rfl rfl (fun aW=>pR ⟨fun σ' H2=>ai H H2/\σ'=[some (.ref a),some (.int (runM needs n (i+1) m:Nat)),some (iQ k0),some (.int ((i+1:Nat):Int)),some (.int (runM needs n (i+1) m:Nat))]/\ ¬Fix needs n (runM needs n i m),?_,?_⟩) (fun l e hl=>kb ?_)
  ·rintro σ' H2 ⟨aY,rfl,nf⟩;have c1:=y4 N.low (low i) nf;rw[<-fq] at c1;have c2:=jl n (runM needs n (i+1) m);exact⟨_,by omega,aY,i+1,_,rfl,aW,rfl⟩
  ·refine⟨_,rfl,_,rfl,_,rfl,a,needs,n,runM needs n i m,rfl,N.same hs,low i,fun H2 aY=>?_⟩;have s2:=hs.trans aY;have ew:runM needs n i m ||| nextM needs (bits n (runM needs n i m))=runM needs n (i+1) m:=by rw[fq];rfl
   refine⟨_,_,rfl,rfl,?_⟩;rw[ew];refine⟨_,rfl,_,rfl,_,_,rfl,rfl,_,rfl,?_⟩;refine Kx (fun e=>?_) (fun e=>?_)
   ·have f:Fix needs n (runM needs n i m):=by
     unfold Fix;rw[<-fq];exact of_decide_eq_true e
    refine⟨_,rfl,?_⟩;exact k H2 i s2 (.inr ⟨fun l q=>Nat.le_of_lt (aW l q),f⟩)
   ·have nf: ¬Fix needs n (runM needs n i m):=fun f=>e (decide_eq_true (by rw[fq,f]));exact⟨_,rfl,_,rfl,i,1,rfl,rfl,s2,rfl,nf⟩
  ·refine⟨_,rfl,?_⟩;have:=hi l e;exact k H' i hs (.inl (by rw[e,show i=l by omega]))
theorem MR(t:Tx K mg w):aB P w K mg base (aC P w cs) 7 t.qJ.f t.qJ.fd ["needs","start","goal"] (GI K):=by
 refine t.qJ.F.aJ true l_ (fun vs H Q E h=>?_) (fun ay A outer s H vs Q E hr h=>?_)
 ·obtain⟨a,needs,n,s,t,rfl,_⟩:=h;rfl
 ·obtain⟨a,needs,n,st,gl,rfl,N,bL,lY,k⟩:=h;refine⟨_,ak (aT 3 l_.nd (aK t.turned (yp t) hr aE.passes (ae (pv 0) ag)))
   (ak (aT 4 l_.nd (dw ag))
   (ak (aT 5 l_.nd aM)
   (ak (aT 6 l_.nd (pv 2))
   (ak (jQ eu (bg zm (pv 6) aM (bc _))
    (ak (bA (eQ PySem.F.plainAttrs_list PySem.F.slot_list_append PySem.F.type_list_append iD (pv 4) (ae (pv 6) ag)))
    (ak (a9 (bg zm (a0 rT (pv 6) (pv 1)) aM (bc _)) (ao (aD (pv 4))) a_)
    (ak (aT 5 l_.nd (a0 mJ (pv 5) (pv 6)))
    (ao (aT 6 l_.nd (a0 u5 (aK t.oK (C3 t) hr aE.passes (ae (pv 3) (ae (pv 6) ag))) (fe vS (pv 5)))))))))
   (ao (aD (dw ag))))))),?_⟩
  refine⟨_,rfl,a,needs,n,rfl,N,fun H1 b dm YW eb=>?_⟩;refine⟨Nat.zero_le _,fun l hl=>⟨_,rfl,?_⟩⟩;have pZ:b≠l:=aR eb hl;have NB: ∀H',ai H1 H'->gT K H' b (flipped n needs) n:=fun H' hs=>⟨aA.of (hs _ _ eb),xP n needs,fo n needs,N.le⟩;have fR:=Ja (fo n needs) lY
  let seen:Nat->Nat:=fun i=>match i with |0=>0 |i+1=>runM (flipped n needs) n i gl
  have Sv: ∀i,seen i ||| lay (flipped n needs) n gl i=runM (flipped n needs) n i gl:=fun i=>by
   cases i with
   |zero=>show 0 ||| gl=gl;simp
   |succ i=>exact(k9 i).symm
  refine⟨fun kk σ H'=>ai H1 H'/\ ∃i,H' l=some (.lst (nums ((List.range i).map (lay (flipped n needs) n gl))))/\σ=[some (.ref a),some (.int st),some (.int gl),some (.ref b),some (.ref l),some (.int (seen i:Nat)),some (.int (lay (flipped n needs) n gl i:Nat))]/\
   (∀j,j<i->lay (flipped n needs) n gl j≠0)/\(∀j,j<i->lay (flipped n needs) n gl j&&&st=0)/\kk=n+1-i,⟨_,ai.new hl,0,au,rfl,fun j hj=>absurd hj (by omega),fun j hj=>absurd hj (by omega),rfl⟩,?_⟩
  rintro kk σ H' ⟨hs,i,el,rfl,Xf,h0,rfl⟩;refine⟨_,rfl,_,0,rfl,rfl,_,rfl,?_⟩
  by_cases hz:lay (flipped n needs) n gl i=0
  ·rw[decide_eq_true hz];refine kb ⟨Nat.zero_le _,fun p hp=>?_⟩;exact k [] (.inr ⟨i,h0,hz,rfl⟩) _ p ((dm.trans hs).trans (ai.new hp)) ((dm.trans hs).free hp) au
  ·rw[decide_eq_false hz];have hn: ∀j,j<=i->lay (flipped n needs) n gl j≠0:=fun j hj=>by
    rcases Nat.lt_or_eq_of_le hj with q |q
    ·exact Xf j q
    ·rw[q];exact hz
   have p9:i<n:=Nat.lt_of_lt_of_le (rS (fo n needs) lY i hn) (jl _ _);refine pR ⟨fun σ' H2=>ai H1 H2/\H2 l=some (.lst (nums ((List.range (i+1)).map (lay (flipped n needs) n gl))))/\lay (flipped n needs) n gl i&&&st=0/\
    σ'=[some (.ref a),some (.int st),some (.int gl),some (.ref b),some (.ref l),some (.int (seen (i+1):Nat)),some (.int (lay (flipped n needs) n gl (i+1):Nat))],?_,?_⟩
   ·rintro σ' H2 ⟨aY,lU,p8,rfl⟩;refine⟨_,by omega,aY,i+1,lU,rfl,fun j hj=>hn j (by omega),fun j hj=>?_,rfl⟩;rcases Nat.lt_or_eq_of_le (Nat.le_of_lt_succ hj) with q |q
    ·exact h0 j q
    ·rw[q];exact p8
   ·have lU:(nums ((List.range i).map (lay (flipped n needs) n gl)))++[V.int (lay (flipped n needs) n gl i:Nat)]=nums ((List.range (i+1)).map (lay (flipped n needs) n gl)):=by
     rw[List.range_succ,List.map_append,eZ];rfl
    refine⟨_,rfl,.inl ⟨rfl,_,aA.of el⟩,_,rfl,l,_,_,rfl,rfl,el,?_,?_⟩
    ·rw[a8,List.length_map,List.length_range];exact kf (by have:=N.le;omega)
    rw[lU];have s2:ai H1 (upd H' l (.lst (nums ((List.range (i+1)).map (lay (flipped n needs) n gl))))):=ai.cM hs hl;refine⟨_,rfl,_,rfl,_,_,rfl,rfl,_,0,rfl,rfl,_,rfl,?_⟩
    by_cases hm:lay (flipped n needs) n gl i&&&st=0
    ·rw[decide_eq_true hm];refine kb ⟨_,rfl,_,rfl,_,_,rfl,rfl,?_⟩;rw[Sv];exact⟨_,rfl,_,rfl,b,_,n,_,rfl,NB _ s2,fR i,fun H3 c7=>⟨_,rfl,_,rfl,_,_,rfl,rfl,s2.trans c7,c7 _ _ au,hm,rfl⟩⟩
    ·rw[decide_eq_false hm];refine pR ⟨_,rfl,?_⟩;exact k _ (.inl ⟨i,hn,h0,hm,rfl⟩) _ l (dm.trans s2) (dm.free hl) au
theorem lay_next{needs:List Nat}{n t j a:Nat}(ha:a<n)(h:(lay (flipped n needs) n t (j+1)).testBit a=true):needs.getD a 0&&&lay (flipped n needs) n t j≠0:=by
 intro z;have h1:(nextM (flipped n needs) (bits n (lay (flipped n needs) n t j))).testBit a=true:=by
  unfold lay at h;rw[gb,Bool.and_eq_true] at h;exact h.1
 rw[kZ,List.any_eq_true] at h1;obtain⟨b,hb,dR⟩:=h1;obtain⟨wM,pZ⟩:=dI.mp hb;rw[mn needs wM,Bool.and_eq_true] at dR;have q:(needs.getD a 0&&&lay (flipped n needs) n t j).testBit b=true:=by rw[Nat.testBit_and,dR.2,pZ];rfl
 rw[z,Nat.zero_testBit] at q;cases q
theorem RR{n m:Nat}(h:m<2^n)(hm:m≠0):low n m<n/\m.testBit (low n m)=true:=by
 obtain⟨a,r,ea,h1,h2⟩:=kY h hm;have e:low n m=a:=by unfold low;rw[ea];rfl
 rw[e];exact⟨h1,h2⟩
theorem ve(back:List Nat)(n t:Nat): ∀(k i:Nat),i<=k->(down back n t k)[i]? =some (lay back n t (k-i))
 |0,i,h=>by
  have e:i=0:=by omega
  subst e;rfl
 |k+1,0,_=>rfl
 |k+1,i+1,h=>by
  show(down back n t k)[i]? =_;rw[ve back n t k i (by omega),show k+1-(i+1)=k-i by omega]
theorem uL{α:Type}{l:List α}{i:Nat}{x:α}(h:l[i]? =some x):l.drop i=x::l.drop (i+1):=by
 obtain⟨hp,e⟩:=List.getElem?_eq_some_iff.mp h;rw[List.drop_eq_getElem_cons hp,e]
theorem xC(t:Tx K mg w):aB P w K mg base (aC P w cs) 8 t.mj.f t.mj.fd ["needs","start","goal"] (GD K):=by
 refine t.mj.F.aJ true oz (fun vs H Q E h=>?_) (fun ay A outer s H vs Q E hr h=>?_)
 ·obtain⟨a,needs,g,s,t,rfl,_⟩:=h;rfl
 ·obtain⟨a,needs,g,st,gl,rfl,N,R,bL,lY,k⟩:=h;have bB:az 6 _:=hr.mono (by decide);refine⟨_,ak (aT 3 oz.nd (dw ag))
   (ak (aT 4 oz.nd (pv 1))
   (ak (jW eu rfl (Oy rfl t.Ei (ae (aK t.qJ (MR t) hr aE.passes (ae (pv 0) (ae (pv 1) (ae (pv 2) ag)))) ag)) (dc (i:=5) oz.nd rfl (Or.inl rfl))
    (ak (aT 6 oz.nd (aK t.pf (DV t) bB aE.passes (ae (a0 rT (pv 4) (pv 5)) ag)))
    (ak (bA (eQ PySem.F.plainAttrs_list PySem.F.slot_list_append PySem.F.type_list_append iD (pv 3) (ae (pv 6) ag)))
    (ao (aT 4 oz.nd (cf d5 (pv 0) (pv 6) (fun _ _=>rfl)))))))
   (ao (aD (pv 3))))),?_⟩
  refine⟨Nat.zero_le _,fun p hp=>⟨_,rfl,?_⟩⟩;have s1:ai H (upd H p (.lst [])):=ai.new hp;refine⟨_,rfl,_,rfl,_,rfl,a,needs,g.length,st,gl,rfl,N.same s1,bL,lY,fun ls hL H2 l aY bP e2=>?_⟩;have s2:ai H H2:=s1.trans aY;have gA:H2 p=some (.lst []):=aY _ _ au;have X2:p≠l:=fun q=>by rw[<-q] at bP;rw[au] at bP;cases bP
  have eJ: ∃pm:List Nat,Vabldl.chosen g (bits g.length st) (bits g.length gl)=fb needs g.length ls.reverse st/\ls.length<=64/\(∀x∈ls,x<2^g.length)/\
    (∀x,ls.reverse[0]? =some x->st&&&x≠0)/\(∀(i:Nat) x y,ls.reverse[i]? =some x->ls.reverse[i+1]? =some y-> ∀b,b<g.length->x.testBit b=true->needs.getD b 0&&&y≠0):=by
   refine⟨[],?_⟩;have fR:=Ja (fo g.length needs) lY;rcases hL with⟨kk,hn,h0,h1,rfl⟩ |⟨kk,h0,h1,rfl⟩
   ·have hk:kk<g.length:=Nat.lt_of_lt_of_le (rS (fo g.length needs) lY kk hn) (jl _ _);refine⟨?_,?_,fun x hx=>?_,fun x hx=>?_,fun i x y hx hy b hb dR=>?_⟩
    ·rw[xK R lY bL hn h0 h1,rF]
    ·rw[List.length_map,List.length_range];have:=N.le;omega
    ·obtain⟨j,_,rfl⟩:=List.mem_map.mp hx;exact fR j
    ·rw[rF,ve _ _ _ _ _ (Nat.zero_le _)] at hx;cases hx;rw[Nat.and_comm];exact h1
    ·have hi:i+1<=kk:=by
      have:=(List.getElem?_eq_some_iff.mp hy).1;rw[List.length_reverse,List.length_map,List.length_range] at this;omega
     rw[rF,ve _ _ _ _ _ (by omega)] at hx;rw[rF,ve _ _ _ _ _ hi] at hy;cases hx;cases hy;rw[show kk-i=(kk-(i+1))+1 by omega] at dR;exact lay_next hb dR
   ·refine⟨?_,Nat.zero_le _,fun x hx=>absurd hx (by simp),fun x hx=>absurd hx (by simp),fun i x y hx=>absurd hx (by simp)⟩;rw[xJ R lY h0 h1];rfl
  obtain⟨-,ij,bH,fR,S8,UA⟩:=eJ;refine⟨l,_,rfl,aA.of e2,?_⟩;refine RH (K:=K) (a:=l) (xs:=nums ls) (fun i σ H'=> ∃(done:List Nat)(al:Nat)(v5 v6:Option V),σ=[some (.ref a),some (.int st),some (.int gl),some (.ref p),some (.int al),v5,v6]/\ai H H'/\H' p=some (.lst (nums done))/\H' l=some (.lst (nums ls))/\
   done.length=i/\al<2^g.length/\fb needs g.length ls.reverse st=done++fb needs g.length (ls.reverse.drop i) al/\(∀x,ls.reverse[i]? =some x->al&&&x≠0))
   ⟨[],st,_,_,rfl,s2,gA,e2,rfl,bL,rfl,S8⟩ (fun i σ H' _ ⟨_,_,_,_,_,_,_,e,_⟩=>aA.of e) ?_ ?_
  ·intro i y σ H' hi hI;refine hide fun _ kG=>?_;obtain⟨done,al,v5,v6,rfl,hs,ep,el,hd,tE,vW,JQ⟩:=hI;refine kG ?_;rw[<-List.map_reverse] at hi;obtain⟨x,hx,rfl⟩:=iE hi;have bo:=JQ x hx;have zE:al&&&x<2^g.length:=mH tE x;obtain⟨hb,dR⟩:=RR zE bo;have eb:low 64 (al&&&x)=low g.length (al&&&x):=by unfold low;rw[mB zE N.le]
   refine⟨_,rfl,_,rfl,_,_,rfl,rfl,al&&&x,rfl,mZ zE N.le,bo,fun H3 c7=>?_⟩;rw[eb];refine⟨_,rfl,.inl ⟨rfl,_,aA.of (c7 _ _ ep)⟩,_,rfl,p,_,_,rfl,rfl,c7 _ _ ep,?_,?_⟩
   ·rw[a8,hd];have:=(List.getElem?_eq_some_iff.mp hx).1;rw[List.length_reverse] at this;exact kf (by omega)
   have s4:ai H (upd H3 p (.lst (nums done++[.int (low g.length (al&&&x):Nat)]))):=ai.cM (hs.trans c7) hp;refine⟨_,rfl,_,rfl,a,_,_,_,rfl,rfl,(N.same s4).at_,at_of (j:=low g.length (al&&&x)) rfl (e_ (oO (by rw[N.len];exact hb))),?_⟩;refine⟨done++[low g.length (al&&&x)],needs.getD (low g.length (al&&&x)) 0,_,_,rfl,s4,by rw[au,rk],by rw[aj (Ne.symm X2)];exact c7 _ _ el,by rw[List.length_append,hd];rfl,pj N.low _,?_,fun z hz=>?_⟩
   ·rw[vW,uL hx,List.append_assoc];rfl
   ·rw[Nat.testBit_and,Bool.and_eq_true] at dR;exact UA i x z hx hz _ hb dR.2
  ·intro σ H' hI;refine hide fun _ kG=>?_;obtain⟨done,al,v5,v6,rfl,hs,ep,el,hd,tE,vW,JQ⟩:=hI;refine kG ?_;refine⟨_,rfl,?_⟩;rw[a8,List.drop_eq_nil_of_le (by rw[List.length_reverse];exact Nat.le_refl _)] at vW;have e:done=fb needs g.length ls.reverse st:=by rw[vW];exact(List.append_nil _).symm
   refine k H' p hs hp ?_;rw[ep,ij,e]
def b8(n:Int):List (Str×V):=[("number",.int n)]
def dS(n p:Int):List (Str×V):=[("number",.int n),("position",.int p)]
theorem RX(n p:Int):bD "position" (.int p) (b8 n)=dS n p:=by
 show(if("number":Str)="position" then _ else _)=_;rw[if_neg (by decide +kernel)];rfl
def Um(H:Hp)(e C:Addr)(fs:List (Str×V))(Q:VK):Prop:= ∀(H':Hp)(d:Addr),H d=none->d≠e->H' e=some (XO e C (some d))->H' d=some (XD d fs)->(∀b o,H b=some o->b≠e->H' b=some o)->Q .aN H'
inductive eL(K:FG)(k:Nat)(F:List Int->List (Str×V))(vs:List V)(H:Hp)(Q:VK)(E:XK):Prop
 |mk(e C:Addr)(is:List Int):vs= .ref e::is.map V.int->is.length=k->H e=some (XO e C none)->fB K C->cV K C "number"->cV K C "position"->Um H e C (F is) Q->eL K k F vs H Q E
theorem d4{K:FG}{mg:Str->Option Value}{x:Str}{k:Nat}{F:List Int->List (Str×V)}{H1:Hp}{a:Addr}{E E1:XK}(c:XF K mg x)(is:List Int)(hk:is.length=k)(ha:H1 a=none)
  (h: ∀(H':Hp)(d:Addr),ai H1 H'->H1 d=none->H' d=some (XD d (F is))->E (.ref c.C) (some d) H'):
  eL K k F (.ref a::is.map V.int) (upd H1 a (XO a c.C none)) (fun v H2=>v= .aN/\ ∃d,H2 a=some (XO a c.C (some d))/\E (.ref c.C) (some d) (L2.cut H2 a)) E1:=by
 refine⟨a,c.C,is,rfl,hk,au,c.cl,c.num,c.pos,fun H' d hd gC h1 h2 h3=>⟨rfl,d,h1,h _ d (fun b o e=>?_) ?_ ?_⟩⟩
 ·have nb:b≠a:=aR e ha;rw[iK nb];exact h3 b o (by rw[aj nb];exact e) nb
 ·rw[aj gC] at hd;exact hd
 ·rw[iK gC];exact h2
theorem kX(t:Tx K mg w):aB P w K mg base (aC P w cs) 1 t.f_.f t.f_.fd ["self","number"] (eL K 1 fun is=>b8 (is.headD 0)):=by
 refine t.f_.F.aJ false MY (fun vs H Q E h=>?_) (fun ay A outer s H vs Q E hr h=>?_)
 ·obtain⟨e,C,is,rfl,hk,_⟩:=h;rw[List.length_cons,List.length_map,hk];rfl
 ·obtain⟨e,C,is,rfl,hk,he,hC,n1,n2,k⟩:=h
  match is,hk with
  |[n],_=>
   refine⟨_,ao (US (pv 0) (pv 1) rfl),?_⟩;refine⟨_,rfl,_,rfl,e,C,rfl,he,hC,n1,fun d hd tI=>?_⟩;exact k _ d hd tI au (by rw[aj tI];exact au) fun b o eb hb=>by rw[aj hb,aj (aR eb hd)];exact eb
theorem Na(t:Tx K mg w):aB P w K mg base (aC P w cs) 2 t.n9.f t.n9.fd ["self"] (eL K 0 fun _=>b8 (-1)):=by
 refine t.n9.F.aJ false MA (fun vs H Q E h=>?_) (fun ay A outer s H vs Q E hr h=>?_)
 ·obtain⟨e,C,is,rfl,hk,_⟩:=h;rw[List.length_cons,List.length_map,hk];rfl
 ·obtain⟨e,C,is,rfl,hk,he,hC,n1,n2,k⟩:=h
  match is,hk with
  |[],_=>
   refine⟨_,ao (bA (gd t.jO (kX t) hr rfl t.cG.m t.f_.b (ax (cs:=cs)) (ae (pv 0) (ae (fe g8 aM) ag)))),?_⟩;exact⟨_,rfl,_,rfl,e,C,[-1],rfl,rfl,he,hC,n1,n2,k⟩
theorem MU(t:Tx K mg w):aB P w K mg base (aC P w cs) 2 t.n0.f t.n0.fd ["self"] (eL K 0 fun _=>b8 (-2)):=by
 refine t.n0.F.aJ false Ms (fun vs H Q E h=>?_) (fun ay A outer s H vs Q E hr h=>?_)
 ·obtain⟨e,C,is,rfl,hk,_⟩:=h;rw[List.length_cons,List.length_map,hk];rfl
 ·obtain⟨e,C,is,rfl,hk,he,hC,n1,n2,k⟩:=h
  match is,hk with
  |[],_=>
   refine⟨_,ao (bA (gd t.jO (kX t) hr rfl t.cG.m t.f_.b (ax (cs:=cs)) (ae (pv 0) (ae (fe g8 aM) ag)))),?_⟩;exact⟨_,rfl,_,rfl,e,C,[-2],rfl,rfl,he,hC,n1,n2,k⟩
theorem CJ(t:Tx K mg w):aB P w K mg base (aC P w cs) 2 t.kJ.f t.kJ.fd ["self"] (eL K 0 fun _=>b8 (-3)):=by
 refine t.kJ.F.aJ false Mv (fun vs H Q E h=>?_) (fun ay A outer s H vs Q E hr h=>?_)
 ·obtain⟨e,C,is,rfl,hk,_⟩:=h;rw[List.length_cons,List.length_map,hk];rfl
 ·obtain⟨e,C,is,rfl,hk,he,hC,n1,n2,k⟩:=h
  match is,hk with
  |[],_=>
   refine⟨_,ao (bA (gd t.jO (kX t) hr rfl t.cG.m t.f_.b (ax (cs:=cs)) (ae (pv 0) (ae (fe g8 aM) ag)))),?_⟩;exact⟨_,rfl,_,rfl,e,C,[-3],rfl,rfl,he,hC,n1,n2,k⟩
theorem M_(t:Tx K mg w):aB P w K mg base (aC P w cs) 2 t.n6.f t.n6.fd ["self"] (eL K 0 fun _=>b8 (-4)):=by
 refine t.n6.F.aJ false My (fun vs H Q E h=>?_) (fun ay A outer s H vs Q E hr h=>?_)
 ·obtain⟨e,C,is,rfl,hk,_⟩:=h;rw[List.length_cons,List.length_map,hk];rfl
 ·obtain⟨e,C,is,rfl,hk,he,hC,n1,n2,k⟩:=h
  match is,hk with
  |[],_=>
   refine⟨_,ao (bA (gd t.jO (kX t) hr rfl t.cG.m t.f_.b (ax (cs:=cs)) (ae (pv 0) (ae (fe g8 aM) ag)))),?_⟩;exact⟨_,rfl,_,rfl,e,C,[-4],rfl,rfl,he,hC,n1,n2,k⟩
theorem M9(t:Tx K mg w):aB P w K mg base (aC P w cs) 2 t.n4.f t.n4.fd ["self"] (eL K 0 fun _=>b8 (-5)):=by
 refine t.n4.F.aJ false Mu (fun vs H Q E h=>?_) (fun ay A outer s H vs Q E hr h=>?_)
 ·obtain⟨e,C,is,rfl,hk,_⟩:=h;rw[List.length_cons,List.length_map,hk];rfl
 ·obtain⟨e,C,is,rfl,hk,he,hC,n1,n2,k⟩:=h
  match is,hk with
  |[],_=>
   refine⟨_,ao (bA (gd t.jO (kX t) hr rfl t.cG.m t.f_.b (ax (cs:=cs)) (ae (pv 0) (ae (fe g8 aM) ag)))),?_⟩;exact⟨_,rfl,_,rfl,e,C,[-5],rfl,rfl,he,hC,n1,n2,k⟩
theorem MI(t:Tx K mg w):aB P w K mg base (aC P w cs) 2 t.nV.f t.nV.fd ["self"] (eL K 0 fun _=>b8 (-16)):=by
 refine t.nV.F.aJ false Mp (fun vs H Q E h=>?_) (fun ay A outer s H vs Q E hr h=>?_)
 ·obtain⟨e,C,is,rfl,hk,_⟩:=h;rw[List.length_cons,List.length_map,hk];rfl
 ·obtain⟨e,C,is,rfl,hk,he,hC,n1,n2,k⟩:=h
  match is,hk with
  |[],_=>
   refine⟨_,ao (bA (gd t.jO (kX t) hr rfl t.cG.m t.f_.b (ax (cs:=cs)) (ae (pv 0) (ae (fe g8 aM) ag)))),?_⟩;exact⟨_,rfl,_,rfl,e,C,[-16],rfl,rfl,he,hC,n1,n2,k⟩
theorem rJ(t:Tx K mg w):aB P w K mg base (aC P w cs) 2 t.ja.f t.ja.fd ["self","number","position"] (eL K 2 fun is=>dS (is.headD 0) (is.getD 1 0)):=by
 refine t.ja.F.aJ false Nu (fun vs H Q E h=>?_) (fun ay A outer s H vs Q E hr h=>?_)
 ·obtain⟨e,C,is,rfl,hk,_⟩:=h;rw[List.length_cons,List.length_map,hk];rfl
 ·obtain⟨e,C,is,rfl,hk,he,hC,n1,n2,k⟩:=h
  match is,hk with
  |[n,p],_=>
   refine⟨_,ak (bA (gd t.jO (kX t) hr rfl t.cG.m t.f_.b (ax (cs:=cs)) (ae (pv 0) (ae (pv 1) ag)))) (ao (UT (pv 0) (pv 2) rfl)),?_⟩;refine⟨_,rfl,_,rfl,e,C,[n],rfl,rfl,he,hC,n1,n2,fun H' d hd tI h1 h2 h3=>?_⟩;refine⟨_,rfl,_,rfl,e,C,d,_,rfl,h1,h2,hC,n2,(by show 1<1000;decide),?_⟩;have e2:bD "position" (.int p) (b8 ([n].headD 0))=dS n p:=RX n p;rw[e2];exact k _ d hd tI (by rw[aj (Ne.symm tI)];exact h1) au fun b o eb hb=>by rw[aj (aR eb hd)];exact h3 b o eb hb
theorem NM(t:Tx K mg w):aB P w K mg base (aC P w cs) 3 t.ot.f t.ot.fd ["self"] (eL K 0 fun _=>dS (-11) 0):=by
 refine t.ot.F.aJ false MO (fun vs H Q E h=>?_) (fun ay A outer s H vs Q E hr h=>?_)
 ·obtain⟨e,C,is,rfl,hk,_⟩:=h;rw[List.length_cons,List.length_map,hk];rfl
 ·obtain⟨e,C,is,rfl,hk,he,hC,n1,n2,k⟩:=h
  match is,hk with
  |[],_=>
   refine⟨_,ao (bA (gd t.pB (rJ t) hr rfl t.eg.m t.ja.b (ax (cs:=cs)) (ae (pv 0) (ae (fe g8 aM) (ae aM ag))))),?_⟩;exact⟨_,rfl,_,rfl,e,C,[-11,0],rfl,rfl,he,hC,n1,n2,k⟩
theorem uw(t:Tx K mg w):aB P w K mg base (aC P w cs) 3 t.gL.f t.gL.fd ["self","position"] (eL K 1 fun is=>dS (-12) (is.headD 0)):=by
 refine t.gL.F.aJ false MD (fun vs H Q E h=>?_) (fun ay A outer s H vs Q E hr h=>?_)
 ·obtain⟨e,C,is,rfl,hk,_⟩:=h;rw[List.length_cons,List.length_map,hk];rfl
 ·obtain⟨e,C,is,rfl,hk,he,hC,n1,n2,k⟩:=h
  match is,hk with
  |[p],_=>
   refine⟨_,ao (bA (gd t.pB (rJ t) hr rfl t.eg.m t.ja.b (ax (cs:=cs)) (ae (pv 0) (ae (fe g8 aM) (ae (pv 1) ag))))),?_⟩;exact⟨_,rfl,_,rfl,_,rfl,e,C,[-12,p],rfl,rfl,he,hC,n1,n2,k⟩
theorem uv(t:Tx K mg w):aB P w K mg base (aC P w cs) 3 t.gK.f t.gK.fd ["self","position"] (eL K 1 fun is=>dS (-13) (is.headD 0)):=by
 refine t.gK.F.aJ false Mz (fun vs H Q E h=>?_) (fun ay A outer s H vs Q E hr h=>?_)
 ·obtain⟨e,C,is,rfl,hk,_⟩:=h;rw[List.length_cons,List.length_map,hk];rfl
 ·obtain⟨e,C,is,rfl,hk,he,hC,n1,n2,k⟩:=h
  match is,hk with
  |[p],_=>
   refine⟨_,ao (bA (gd t.pB (rJ t) hr rfl t.eg.m t.ja.b (ax (cs:=cs)) (ae (pv 0) (ae (fe g8 aM) (ae (pv 1) ag))))),?_⟩;exact⟨_,rfl,_,rfl,_,rfl,e,C,[-13,p],rfl,rfl,he,hC,n1,n2,k⟩
theorem NL(t:Tx K mg w):aB P w K mg base (aC P w cs) 3 t.oh.f t.oh.fd ["self","position"] (eL K 1 fun is=>dS (-14) (is.headD 0)):=by
 refine t.oh.F.aJ false MK (fun vs H Q E h=>?_) (fun ay A outer s H vs Q E hr h=>?_)
 ·obtain⟨e,C,is,rfl,hk,_⟩:=h;rw[List.length_cons,List.length_map,hk];rfl
 ·obtain⟨e,C,is,rfl,hk,he,hC,n1,n2,k⟩:=h
  match is,hk with
  |[p],_=>
   refine⟨_,ao (bA (gd t.pB (rJ t) hr rfl t.eg.m t.ja.b (ax (cs:=cs)) (ae (pv 0) (ae (fe g8 aM) (ae (pv 1) ag))))),?_⟩;exact⟨_,rfl,_,rfl,_,rfl,e,C,[-14,p],rfl,rfl,he,hC,n1,n2,k⟩
theorem MQ(t:Tx K mg w):aB P w K mg base (aC P w cs) 3 t.nW.f t.nW.fd ["self","position"] (eL K 1 fun is=>dS (-15) (is.headD 0)):=by
 refine t.nW.F.aJ false Mr (fun vs H Q E h=>?_) (fun ay A outer s H vs Q E hr h=>?_)
 ·obtain⟨e,C,is,rfl,hk,_⟩:=h;rw[List.length_cons,List.length_map,hk];rfl
 ·obtain⟨e,C,is,rfl,hk,he,hC,n1,n2,k⟩:=h
  match is,hk with
  |[p],_=>
   refine⟨_,ao (bA (gd t.pB (rJ t) hr rfl t.eg.m t.ja.b (ax (cs:=cs)) (ae (pv 0) (ae (fe g8 aM) (ae (pv 1) ag))))),?_⟩;exact⟨_,rfl,_,rfl,_,rfl,e,C,[-15,p],rfl,rfl,he,hC,n1,n2,k⟩
theorem Ce(t:Tx K mg w):aB P w K mg base (aC P w cs) 2 t.kI.f t.kI.fd ["self","number"] (eL K 1 fun is=>b8 (is.headD 0-10)):=by
 refine t.kI.F.aJ false Mq (fun vs H Q E h=>?_) (fun ay A outer s H vs Q E hr h=>?_)
 ·obtain⟨e,C,is,rfl,hk,_⟩:=h;rw[List.length_cons,List.length_map,hk];rfl
 ·obtain⟨e,C,is,rfl,hk,he,hC,n1,n2,k⟩:=h
  match is,hk with
  |[n],_=>
   refine⟨_,ao (bA (gd t.jO (kX t) hr rfl t.cG.m t.f_.b (ax (cs:=cs)) (ae (pv 0) (ae (a0 r9 (pv 1) aM) ag)))),?_⟩;exact⟨_,rfl,_,rfl,_,_,rfl,rfl,e,C,[n-10],rfl,rfl,he,hC,n1,n2,k⟩
section
variable{X:Cx}
theorem gZ:bJ X (compareOp .LtE) (fun x y H Q=> ∃a b:Nat,x= .int (a:Int)/\y= .int (b:Int)/\Q (.bl (decide (a<=b))) H):=by
 rintro aa s σ H x y v u Q I rx ry ⟨a,b,ex,ey,q⟩;exact J6 aa s σ H x y v u Q I rx ry ⟨a,b,ex,ey,by show Q (.bl (decide ((a:Int)<=(b:Int)))) H;rw[decide_eq_decide.mpr Int.ofNat_le];exact q⟩
theorem pE:bJ X (compareOp .Lt) (fun x y H Q=> ∃a b:Nat,x= .int (a:Int)/\y= .int (b:Int)/\Q (.bl (decide (a<b))) H):=by
 rintro aa s σ H x y v u Q I rx ry ⟨a,b,ex,ey,q⟩;exact zI aa s σ H x y v u Q I rx ry ⟨a,b,ex,ey,by show Q (.bl (decide ((a:Int)<(b:Int)))) H;rw[decide_eq_decide.mpr Int.ofNat_lt];exact q⟩
theorem pD:bJ X (compareOp .Gt) (fun x y H Q=> ∃a b:Nat,x= .int (a:Int)/\y= .int (b:Int)/\Q (.bl (decide (b<a))) H):=by
 rintro aa s σ H x y v u Q I rx ry ⟨a,b,ex,ey,q⟩;exact UL aa s σ H x y v u Q I rx ry ⟨a,b,ex,ey,by show Q (.bl (decide ((b:Int)<(a:Int)))) H;rw[decide_eq_decide.mpr Int.ofNat_lt];exact q⟩
theorem vA:bJ X (binaryOp .Sub) (fun x y H Q=> ∃a b:Nat,x= .int (a:Int)/\y= .int (b:Int)/\b<=a/\Q (.int ((a-b:Nat):Int)) H):=by
 rintro aa s σ H x y v u Q I rx ry ⟨a,b,ex,ey,hb,q⟩;exact r9 aa s σ H x y v u Q I rx ry ⟨a,b,ex,ey,by show Q (.int ((a:Int)-(b:Int))) H;rw[show((a:Int)-(b:Int))=((a-b:Nat):Int) from by omega];exact q⟩
end
theorem bS{c:Bool}{A B:Prop}(h1:c=true->A)(h2:c=false->B):if c=true then A else B:=by
 cases c with
 |true=>exact pR (h1 rfl)
 |false=>exact kb (h2 rfl)
inductive EC(vs:List V)(H:Hp)(Q:VK)(E:XK):Prop
 |mk(c:Nat):vs=[.int c]->Q (.bl (Vabldl.nameByte c)) H->EC vs H Q E
inductive GG(K:FG)(vs:List V)(H:Hp)(Q:VK)(E:XK):Prop
 |mk(a:Addr)(t:VT):vs=[.ref a]->bu K H a (nums t)->t.length<sizeLine->(∀H',ai H H'->Q (.bl (Vabldl.goodText t)) H')->GG K vs H Q E
theorem xR(t:VT):Vabldl.goodText t=((decide (1<=t.length)&&decide (t.length<=40))&&t.all Vabldl.nameByte):=by
 unfold Vabldl.goodText;cases t with
 |nil=>rfl
 |cons a l=>rw[decide_eq_true (show 1<=(a::l).length from Nat.succ_le_succ (Nat.zero_le _))];rfl
abbrev kl(l:List Bool):List V:=l.map V.bl
theorem Ea(l r:List Bool):kl (l++r)=kl l++kl r:=List.map_append
theorem Cw(t:Tx K mg w):aB P w K mg base (aC P w cs) 5 t.oC.f t.oC.fd ["byte"] EC:=by
 refine t.oC.F.aJ true MZ (fun vs H Q E h=>?_) (fun ay A outer s H vs Q E hr h=>?_)
 ·obtain⟨c,rfl,_⟩:=h;rfl
 ·obtain⟨c,rfl,k⟩:=h;obtain⟨tq,eq⟩:=t.rY;refine⟨_,ao (aD (vK (Gb gZ gZ aM (pv 0) aM) (vL (ji zm (pv 0) (bw (v:= .int 34) rfl eq ⟨_,rfl⟩) (bc _))))),?_⟩;have eJ:Vabldl.nameByte c=(decide (33<=c)&&(decide (c<=126)&& !decide (c=34))):=rfl;rw[eJ] at k;refine⟨_,rfl,33,c,rfl,rfl,_,rfl,bS (fun h1=>⟨c,126,rfl,rfl,_,rfl,bS (fun h2=>⟨_,rfl,c,34,rfl,rfl,?_⟩) fun h2=>?_⟩) fun h1=>⟨_,rfl,kb ?_⟩⟩
  ·rw[h1,h2] at k;exact k
  ·rw[h1,h2] at k;exact k
  ·rw[h1] at k;exact k
theorem Ej(t:Tx K mg w):aB P w K mg base (aC P w cs) 6 t.pq.f t.pq.fd ["row"] (GG K):=by
 refine t.pq.F.aJ true yb (fun vs H Q E h=>?_) (fun ay A outer s H vs Q E hr h=>?_)
 ·obtain⟨a,t,rfl,_⟩:=h;rfl
 ·obtain⟨a,x,rfl,hx,hz,k⟩:=h;obtain⟨tq,eq⟩:=t.CZ;refine⟨_,ao (aD (vK (Gb gZ gZ aM (bV dH rfl t.dy rfl (ae (pv 0) ag)) (bw (v:= .int 40) rfl eq ⟨_,rfl⟩))
   (vL (bV (SW rfl) rfl t.JZ rfl (ae (lG (own:=[("byte",1)]) rfl yb.nd (zr (pv 0)) (gS rfl)
   (fun _ _ _ _ _=>dc (i:=1) yb.nd rfl (Or.inl rfl)) (fun _ _ _ _ _=>jT) (fun _ _ _ _ _=>aK t.oC (Cw (cs:=cs) t) hr (ax (cs:=cs)) (ae (pv 1) ag))) ag))))),?_⟩
  rw[xR] at k;refine⟨_,rfl,a,_,rfl,.inr hx,1,x.length,rfl,(by rw[a8]),_,rfl,bS (fun h1=>⟨x.length,40,(by rw[a8]),rfl,_,rfl,bS (fun h2=>?_) fun h2=>?_⟩) fun h1=>⟨_,rfl,kb ?_⟩⟩
  ·refine⟨_,rfl,a,rfl,⟨_,hx⟩,fun D hD=>?_⟩;refine zi (K:=K) (a:=a) (xs:=nums x) (fun i H'=>ai H H'/\H' D=some (.lst (kl ((x.take i).map Vabldl.nameByte)))) ⟨ai.new hD,au⟩ (fun i H' _ ⟨hs,_⟩=>hs.Am hx) (fun i y H' hi ⟨hs,hl⟩=>?_) (fun H' ⟨hs,hl⟩=>?_)
   ·obtain⟨c,hc,rfl⟩:=iE hi;refine⟨rfl,yes ⟨_,rfl,c,rfl,_,hl,?_,ai.cM hs hD,?_⟩⟩
    ·rw[List.length_map,List.length_map,List.length_take];exact Nat.lt_of_le_of_lt (Nat.min_le_right _ _) hz
    ·rw[au,take_snoc hc,List.map_append,Ea];rfl
   ·refine⟨D,_,rfl,aA.of hl,?_⟩;have:=k H' hs;rw[h1,h2] at this;rw[a8,List.take_length,List.all_map];exact this
  ·have:=k H (ai.refl H);rw[h1,h2] at this;exact this
  ·have:=k H (ai.refl H);rw[h1] at this;exact this
theorem c_(f:Str)(v:V): ∀fs:List (Str×V),f∉fs.map (·.1)->bD f v fs=fs++[(f,v)]
 |[],_=>rfl
 |(g,x)::r,h=>by
  have n: ¬g=f:=fun e=>h (by rw[e];exact List.mem_cons_self);show(if g=f then _ else _)=_;rw[if_neg n,c_ f v r fun q=>h (List.mem_cons_of_mem _ q)];rfl
inductive iR(C:Addr)(n:Nat)(F:List V->List (Str×V))(vs:List V)(H:Hp)(Q:VK)(E:XK):Prop
 |mk(x dx:Addr)(us:List V):vs= .ref x::us->us.length=n->H x=some (.ins C dx [])->(∀H',(∀b o,H b=some o->b≠x->H' b=some o)->(∀b,H b=none->H' b=none)->H' x=some (.ins C dx (F us))->Q .aN H')->iR C n F vs H Q E
def Vh(H:Hp)(C:Addr)(fs:List (Str×V))(Q:VK):Prop:= ∀(H':Hp)(x dx:Addr),ai H H'->H x=none->H dx=none->(∀b,H b=none->b≠x->b≠dx->H' b=none)->H' x=some (.ins C dx fs)->Q (.ref x) H'
theorem jq{C:Addr}{n:Nat}{F:List V->List (Str×V)}{H1:Hp}{x dx:Addr}{us:List V}{Q:VK}{E:XK}(hn:us.length=n)(hx:H1 x=none)(hd:H1 dx=none)(bo:dx≠x)(h:Vh H1 C (F us) Q):
  iR C n F (.ref x::(us++[])) (upd (upd H1 dx (.own x)) x (.ins C dx [])) (fun v H2=>v= .aN/\Q (.ref x) H2) E:=by
 rw[List.append_nil];refine⟨x,dx,us,rfl,hn,au,fun H' h1 h3 h2=>⟨rfl,h H' x dx (fun b o e=>?_) hx hd (fun b e n1 n2=>h3 b ?_) h2⟩⟩
 ·exact h1 b o (by rw[aj (aR e hx),aj (aR e hd)];exact e) (aR e hx)
 ·rw[aj n1,aj n2];exact e
def HM(x0:V):List (Str×V):=[("text",x0)]
def FL(x0:V):List (Str×V):=[("name",x0)]
def we(x0 x1 x2:V):List (Str×V):=[("name",x0),("given",x1),("body",x2)]
def sumF(x0 x1:V):List (Str×V):=[("first",x0),("steps",x1)]
def jo(x0 x1 x2 x3:V):List (Str×V):=[("word",x0),("texts",x1),("parts",x2),("limit",x3)]
def zy(x0 x1 x2 x3:V):List (Str×V):=[("form",x0),("value",x1),("position",x2),("behind",x3)]
def Sn(x0:V):List (Str×V):=[("tokens",x0),("place",.int 0)]
def Ur(x0:V):List (Str×V):=[("numbers",x0),("place",.int 0)]
def QH:List V->List (Str×V):=fun us=>match us with |[x0]=>HM x0 |_=>[]
theorem PD(t:Tx K mg w):aB P w K mg base (aC P w cs) 1 t.oE.f t.oE.fd ["self","text"] (iR t.cq.C 1 QH):=by
 refine t.oE.F.aJ false Nk (fun vs H Q E h=>?_) (fun ay A outer s H vs Q E hr h=>?_)
 ·obtain⟨x,dx,us,rfl,hk,_⟩:=h;rw[List.length_cons,hk];rfl
 ·obtain⟨x,dx,us,rfl,hk,hx,k⟩:=h;obtain⟨x0,rfl⟩:=ke hk;refine⟨_,(ao (cZ (pv 0) (pv 1) rfl)),?_⟩;refine⟨_,rfl,_,rfl,x,_,dx,_,rfl,hx,t.cq.cl,t.cq.nn,(by show 0<1000;decide),?_⟩;rw[show bD "text" x0 ([]:List (Str×V))=([("text",x0)]:List (Str×V)) from c_ _ _ _ (show("text":Str)∉([]:List Str) by decide +kernel)];refine k _ (fun b o e hb=>?_) (fun b e=>?_) au
  ·rw[aj hb];exact e
  ·rw[aj (aR hx e).symm];exact e
def OY:List V->List (Str×V):=fun us=>match us with |[x0]=>FL x0 |_=>[]
theorem Oi(t:Tx K mg w):aB P w K mg base (aC P w cs) 1 t.oy.f t.oy.fd ["self","name"] (iR t.b_.C 1 OY):=by
 refine t.oy.F.aJ false MT (fun vs H Q E h=>?_) (fun ay A outer s H vs Q E hr h=>?_)
 ·obtain⟨x,dx,us,rfl,hk,_⟩:=h;rw[List.length_cons,hk];rfl
 ·obtain⟨x,dx,us,rfl,hk,hx,k⟩:=h;obtain⟨x0,rfl⟩:=ke hk;refine⟨_,(ao (cZ (pv 0) (pv 1) rfl)),?_⟩;refine⟨_,rfl,_,rfl,x,_,dx,_,rfl,hx,t.b_.cl,t.b_.nn,(by show 0<1000;decide),?_⟩;rw[show bD "name" x0 ([]:List (Str×V))=([("name",x0)]:List (Str×V)) from c_ _ _ _ (show("name":Str)∉([]:List Str) by decide +kernel)];refine k _ (fun b o e hb=>?_) (fun b e=>?_) au
  ·rw[aj hb];exact e
  ·rw[aj (aR hx e).symm];exact e
def mkLet:List V->List (Str×V):=fun us=>match us with |[x0,x1,x2]=>we x0 x1 x2 |_=>[]
theorem Tr(t:Tx K mg w):aB P w K mg base (aC P w cs) 1 t.oQ.f t.oQ.fd ["self","name","given","body"] (iR t.bF.C 3 mkLet):=by
 refine t.oQ.F.aJ false OA (fun vs H Q E h=>?_) (fun ay A outer s H vs Q E hr h=>?_)
 ·obtain⟨x,dx,us,rfl,hk,_⟩:=h;rw[List.length_cons,hk];rfl
 ·obtain⟨x,dx,us,rfl,hk,hx,k⟩:=h;obtain⟨x0,x1,x2,rfl⟩:=wc hk;refine⟨_,(ak (cZ (pv 0) (pv 1) rfl) (ak (cZ (pv 0) (pv 2) rfl) (ao (cZ (pv 0) (pv 3) rfl)))),?_⟩;refine⟨_,rfl,_,rfl,x,_,dx,_,rfl,hx,t.bF.cl,t.bF.nn,(by show 0<1000;decide),?_⟩;rw[show bD "name" x0 ([]:List (Str×V))=([("name",x0)]:List (Str×V)) from c_ _ _ _ (show("name":Str)∉([]:List Str) by decide +kernel)];refine⟨_,rfl,_,rfl,x,_,dx,_,rfl,au,t.bF.cl,t.bF.nn,(by show 1<1000;decide),?_⟩;rw[show bD "given" x1 ([("name",x0)]:List (Str×V))=([("name",x0),("given",x1)]:List (Str×V)) from c_ _ _ _ (show("given":Str)∉(["name"]:List Str) by decide +kernel)];refine⟨_,rfl,_,rfl,x,_,dx,_,rfl,au,t.bF.cl,t.bF.nn,(by show 2<1000;decide),?_⟩;rw[show bD "body" x2 ([("name",x0),("given",x1)]:List (Str×V))=([("name",x0),("given",x1),("body",x2)]:List (Str×V)) from c_ _ _ _ (show("body":Str)∉(["name","given"]:List Str) by decide +kernel)];refine k _ (fun b o e hb=>?_) (fun b e=>?_) au
  ·rw[aj hb,aj hb,aj hb];exact e
  ·rw[aj (aR hx e).symm,aj (aR hx e).symm,aj (aR hx e).symm];exact e
def UJ:List V->List (Str×V):=fun us=>match us with |[x0,x1]=>sumF x0 x1 |_=>[]
theorem Ts(t:Tx K mg w):aB P w K mg base (aC P w cs) 1 t.oR.f t.oR.fd ["self","first","steps"] (iR t.bO.C 2 UJ):=by
 refine t.oR.F.aJ false OB (fun vs H Q E h=>?_) (fun ay A outer s H vs Q E hr h=>?_)
 ·obtain⟨x,dx,us,rfl,hk,_⟩:=h;rw[List.length_cons,hk];rfl
 ·obtain⟨x,dx,us,rfl,hk,hx,k⟩:=h;obtain⟨x0,x1,rfl⟩:=sF hk;refine⟨_,(ak (cZ (pv 0) (pv 1) rfl) (ao (cZ (pv 0) (pv 2) rfl))),?_⟩;refine⟨_,rfl,_,rfl,x,_,dx,_,rfl,hx,t.bO.cl,t.bO.nn,(by show 0<1000;decide),?_⟩;rw[show bD "first" x0 ([]:List (Str×V))=([("first",x0)]:List (Str×V)) from c_ _ _ _ (show("first":Str)∉([]:List Str) by decide +kernel)];refine⟨_,rfl,_,rfl,x,_,dx,_,rfl,au,t.bO.cl,t.bO.nn,(by show 1<1000;decide),?_⟩;rw[show bD "steps" x1 ([("first",x0)]:List (Str×V))=([("first",x0),("steps",x1)]:List (Str×V)) from c_ _ _ _ (show("steps":Str)∉(["first"]:List Str) by decide +kernel)];refine k _ (fun b o e hb=>?_) (fun b e=>?_) au
  ·rw[aj hb,aj hb];exact e
  ·rw[aj (aR hx e).symm,aj (aR hx e).symm];exact e
def ft:List V->List (Str×V):=fun us=>match us with |[x0,x1,x2,x3]=>jo x0 x1 x2 x3 |_=>[]
theorem HE(t:Tx K mg w):aB P w K mg base (aC P w cs) 1 t.kW.f t.kW.fd ["self","word","texts","parts","limit"] (iR t.aU.C 4 ft):=by
 refine t.kW.F.aJ false NR (fun vs H Q E h=>?_) (fun ay A outer s H vs Q E hr h=>?_)
 ·obtain⟨x,dx,us,rfl,hk,_⟩:=h;rw[List.length_cons,hk];rfl
 ·obtain⟨x,dx,us,rfl,hk,hx,k⟩:=h;obtain⟨x0,x1,x2,x3,rfl⟩:=sG hk;refine⟨_,(ak (cZ (pv 0) (pv 1) rfl) (ak (cZ (pv 0) (pv 2) rfl) (ak (cZ (pv 0) (pv 3) rfl) (ao (cZ (pv 0) (pv 4) rfl))))),?_⟩;refine⟨_,rfl,_,rfl,x,_,dx,_,rfl,hx,t.aU.cl,t.aU.nn,(by show 0<1000;decide),?_⟩;rw[show bD "word" x0 ([]:List (Str×V))=([("word",x0)]:List (Str×V)) from c_ _ _ _ (show("word":Str)∉([]:List Str) by decide +kernel)];refine⟨_,rfl,_,rfl,x,_,dx,_,rfl,au,t.aU.cl,t.aU.nn,(by show 1<1000;decide),?_⟩;rw[show bD "texts" x1 ([("word",x0)]:List (Str×V))=([("word",x0),("texts",x1)]:List (Str×V)) from c_ _ _ _ (show("texts":Str)∉(["word"]:List Str) by decide +kernel)];refine⟨_,rfl,_,rfl,x,_,dx,_,rfl,au,t.aU.cl,t.aU.nn,(by show 2<1000;decide),?_⟩;rw[show bD "parts" x2 ([("word",x0),("texts",x1)]:List (Str×V))=([("word",x0),("texts",x1),("parts",x2)]:List (Str×V)) from c_ _ _ _ (show("parts":Str)∉(["word","texts"]:List Str) by decide +kernel)];refine⟨_,rfl,_,rfl,x,_,dx,_,rfl,au,t.aU.cl,t.aU.nn,(by show 3<1000;decide),?_⟩;rw[show bD "limit" x3 ([("word",x0),("texts",x1),("parts",x2)]:List (Str×V))=([("word",x0),("texts",x1),("parts",x2),("limit",x3)]:List (Str×V)) from c_ _ _ _ (show("limit":Str)∉(["word","texts","parts"]:List Str) by decide +kernel)];refine k _ (fun b o e hb=>?_) (fun b e=>?_) au
  ·rw[aj hb,aj hb,aj hb,aj hb];exact e
  ·rw[aj (aR hx e).symm,aj (aR hx e).symm,aj (aR hx e).symm,aj (aR hx e).symm];exact e
def RT:List V->List (Str×V):=fun us=>match us with |[x0,x1,x2,x3]=>zy x0 x1 x2 x3 |_=>[]
theorem rK(t:Tx K mg w):aB P w K mg base (aC P w cs) 1 t.fM.f t.fM.fd ["self","form","value","position","behind"] (iR t.ba.C 4 RT):=by
 refine t.fM.F.aJ false Nw (fun vs H Q E h=>?_) (fun ay A outer s H vs Q E hr h=>?_)
 ·obtain⟨x,dx,us,rfl,hk,_⟩:=h;rw[List.length_cons,hk];rfl
 ·obtain⟨x,dx,us,rfl,hk,hx,k⟩:=h;obtain⟨x0,x1,x2,x3,rfl⟩:=sG hk;refine⟨_,(ak (cZ (pv 0) (pv 1) rfl) (ak (cZ (pv 0) (pv 2) rfl) (ak (cZ (pv 0) (pv 3) rfl) (ao (cZ (pv 0) (pv 4) rfl))))),?_⟩;refine⟨_,rfl,_,rfl,x,_,dx,_,rfl,hx,t.ba.cl,t.ba.nn,(by show 0<1000;decide),?_⟩;rw[show bD "form" x0 ([]:List (Str×V))=([("form",x0)]:List (Str×V)) from c_ _ _ _ (show("form":Str)∉([]:List Str) by decide +kernel)];refine⟨_,rfl,_,rfl,x,_,dx,_,rfl,au,t.ba.cl,t.ba.nn,(by show 1<1000;decide),?_⟩;rw[show bD "value" x1 ([("form",x0)]:List (Str×V))=([("form",x0),("value",x1)]:List (Str×V)) from c_ _ _ _ (show("value":Str)∉(["form"]:List Str) by decide +kernel)];refine⟨_,rfl,_,rfl,x,_,dx,_,rfl,au,t.ba.cl,t.ba.nn,(by show 2<1000;decide),?_⟩;rw[show bD "position" x2 ([("form",x0),("value",x1)]:List (Str×V))=([("form",x0),("value",x1),("position",x2)]:List (Str×V)) from c_ _ _ _ (show("position":Str)∉(["form","value"]:List Str) by decide +kernel)];refine⟨_,rfl,_,rfl,x,_,dx,_,rfl,au,t.ba.cl,t.ba.nn,(by show 3<1000;decide),?_⟩;rw[show bD "behind" x3 ([("form",x0),("value",x1),("position",x2)]:List (Str×V))=([("form",x0),("value",x1),("position",x2),("behind",x3)]:List (Str×V)) from c_ _ _ _ (show("behind":Str)∉(["form","value","position"]:List Str) by decide +kernel)];refine k _ (fun b o e hb=>?_) (fun b e=>?_) au
  ·rw[aj hb,aj hb,aj hb,aj hb];exact e
  ·rw[aj (aR hx e).symm,aj (aR hx e).symm,aj (aR hx e).symm,aj (aR hx e).symm];exact e
def QI:List V->List (Str×V):=fun us=>match us with |[x0]=>Sn x0 |_=>[]
theorem PF(t:Tx K mg w):aB P w K mg base (aC P w cs) 1 t.oF.f t.oF.fd ["self","tokens"] (iR t.aP.C 1 QI):=by
 refine t.oF.F.aJ false Nl (fun vs H Q E h=>?_) (fun ay A outer s H vs Q E hr h=>?_)
 ·obtain⟨x,dx,us,rfl,hk,_⟩:=h;rw[List.length_cons,hk];rfl
 ·obtain⟨x,dx,us,rfl,hk,hx,k⟩:=h;obtain⟨x0,rfl⟩:=ke hk;refine⟨_,(ak (cZ (pv 0) (pv 1) rfl) (ao (cZ (pv 0) aM rfl))),?_⟩;refine⟨_,rfl,_,rfl,x,_,dx,_,rfl,hx,t.aP.cl,t.aP.nn,(by show 0<1000;decide),?_⟩;rw[show bD "tokens" x0 ([]:List (Str×V))=([("tokens",x0)]:List (Str×V)) from c_ _ _ _ (show("tokens":Str)∉([]:List Str) by decide +kernel)];refine⟨_,rfl,x,_,dx,_,rfl,au,t.aP.cl,t.aP.nn,(by show 1<1000;decide),?_⟩;rw[show bD "place" (V.int 0) ([("tokens",x0)]:List (Str×V))=([("tokens",x0),("place",V.int 0)]:List (Str×V)) from c_ _ _ _ (show("place":Str)∉(["tokens"]:List Str) by decide +kernel)];refine k _ (fun b o e hb=>?_) (fun b e=>?_) au
  ·rw[aj hb,aj hb];exact e
  ·rw[aj (aR hx e).symm,aj (aR hx e).symm];exact e
def To:List V->List (Str×V):=fun us=>match us with |[x0]=>Ur x0 |_=>[]
theorem R0(t:Tx K mg w):aB P w K mg base (aC P w cs) 1 t.oH.f t.oH.fd ["self","numbers"] (iR t.bq.C 1 To):=by
 refine t.oH.F.aJ false NS (fun vs H Q E h=>?_) (fun ay A outer s H vs Q E hr h=>?_)
 ·obtain⟨x,dx,us,rfl,hk,_⟩:=h;rw[List.length_cons,hk];rfl
 ·obtain⟨x,dx,us,rfl,hk,hx,k⟩:=h;obtain⟨x0,rfl⟩:=ke hk;refine⟨_,(ak (cZ (pv 0) (pv 1) rfl) (ao (cZ (pv 0) aM rfl))),?_⟩;refine⟨_,rfl,_,rfl,x,_,dx,_,rfl,hx,t.bq.cl,t.bq.nn,(by show 0<1000;decide),?_⟩;rw[show bD "numbers" x0 ([]:List (Str×V))=([("numbers",x0)]:List (Str×V)) from c_ _ _ _ (show("numbers":Str)∉([]:List Str) by decide +kernel)];refine⟨_,rfl,x,_,dx,_,rfl,au,t.bq.cl,t.bq.nn,(by show 1<1000;decide),?_⟩;rw[show bD "place" (V.int 0) ([("numbers",x0)]:List (Str×V))=([("numbers",x0),("place",V.int 0)]:List (Str×V)) from c_ _ _ _ (show("place":Str)∉(["numbers"]:List Str) by decide +kernel)];refine k _ (fun b o e hb=>?_) (fun b e=>?_) au
  ·rw[aj hb,aj hb];exact e
  ·rw[aj (aR hx e).symm,aj (aR hx e).symm];exact e
end Bp
namespace HT
open PySem PySem.Spec PyProof.Rows
section
variable{prog:Program}{w:World}{A:Around}{E:Value->Shared->Prop}{s:Shared}
theorem Mt{t sl:Addr}{items:Array Value}{vl vu:Value}{lo hi:Option Int}{Q:Value->Shared->Prop}(ht:IsTup s.heap t items)(hs:s.heap.IsSliceOf sl vl vu .none)(pl:IsPart vl lo)(pu:IsPart vu hi)
  (hw:bb items.size 0 lo=0/\bb items.size items.size hi=items.size) (h:Q (.ref t) s):wpAny (model prog w) A (getItem (.ref t) (.ref sl)) Q E s:=by
 obtain⟨os,nB,wO,tJ⟩:=id hs;have AD:s.TypeIs (.ref sl) "slice":=⟨os,nB,wO⟩;unfold getItem
 try with_reducible refine wpAny_holding ?_
 first |refine wpAny_bind (wpAny_pure ?_) |skip
 refine wpAny_bind (wpAny_sequenceKey ht.typeIs (by decide) ?_);refine wpAny_bind (wpAny_callSpecial?_slot (name:=Str.ofString "__getitem__") ht.typeIs PyProof.Rows.slot_tuple_getitem
  (wpAny_call_entry PyProof.Rows.slot_tuple_getitem ht.typeIs entry_tuple_getitem ?_ (args_tuple_getitem _ _)))
 show wpAny _ _ (Builtin.Tuple.tupleItemsOf (.ref t)>>=_) _ _ s;refine wpAny_bind (tupleItemsOf_ ht ?_);refine wpAny_bind (wpAny_typeOf AD ?_);rw[if_pos (by decide)];refine wpAny_bind (Cs hs pl pu ?_);have VL:(((bb items.size 0 lo:Nat):Int)==0&&(1:Int)==1&&(bb items.size items.size hi-bb items.size 0 lo)==items.size)=true:=by
  rw[hw.1,hw.2];simp
 show wpAny _ _ (if(((bb items.size 0 lo:Nat):Int)==0&&(1:Int)==1&&(bb items.size items.size hi-bb items.size 0 lo)==items.size)=true then _ else _) _ _ s;rw[if_pos VL];unfold Builtin.Tuple.tupleIsExact;refine wpAny_bind (wpAny_bind (wpAny_typeOf ht.typeIs (wpAny_pure ?_)));rw[if_pos (by decide)];refine wpAny_bind (wpAny_rule ?_);exact wpAny_pure ⟨_,rfl,wpAny_pure h⟩
end
end HT
namespace Bp
open PySem PySem.Spec PyProof.Rows L2 Bq
variable{K:FG}{mg:Str->Option Value}{w:World}{P:Program}{base:Heap}{cs:Addr}
inductive KQ(x:V)(lo hi:Option Int)(H:Hp)(Q:VK):Prop
 |mk(a:Addr)(xs:List Nat)(i j:Nat):x= .ref a->lo=some (i:Int)->hi=some (j:Int)->H a=some (.tup (nums xs))->i<=xs.length->j<=xs.length->(∀H' p,ai H H'->H' p=some (.tup (nums ((xs.drop i).take (j-i))))->Q (.ref p) H')->KQ x lo hi H Q
theorem si{X:Cx}:wy X KQ:=by
 rintro aa s σ H x v vl vu lo hi sl Q I rx hs pl pu ⟨a,xs,i,j,rfl,rfl,rfl,ha,hi,hj,q⟩;have hT:bu X.K H a (nums xs):= .inl (.inl ha);have e1:HT.bb (nums xs).length 0 (some (i:Int))=i:=by rw[HT.vC,a8];omega
 have e2:HT.bb (nums xs).length (nums xs).length (some (j:Int))=j:=by rw[HT.vC,a8];omega
 by_cases hw:HT.bb (nums xs).length 0 (some (i:Int))=0/\HT.bb (nums xs).length (nums xs).length (some (j:Int))=(nums xs).length
 ·cases rx;obtain⟨aq,r,ht,hz⟩:=I.tuple hT;have bH:aq.toArray.size=(nums xs).length:=by rw[List.size_toArray];exact r.length.symm
  refine⟨"tuple",_,PyProof.Rows.slot_tuple_getitem.lookup,ht.typeIs,HT.Mt ht hs pl pu (by rw[bH];exact hw) ?_⟩;refine⟨.ref a,H,I,rfl,q H a (ai.refl H) ?_⟩;rw[e1,e2,a8] at hw;rw[hw.1,hw.2,List.drop_zero,Nat.sub_zero,List.take_length];exact ha
 ·refine TX aa s σ H (.ref a) v vl vu _ _ sl Q I rx hs pl pu ⟨a,_,rfl,hT,hw,fun p hp=>?_⟩;refine q _ p (ai.new hp) ?_;unfold j6;rw[au,e1,e2,<-List.map_drop,<-List.map_take]
def strOf(w:VT):Str:=⟨w.toArray⟩
theorem jN{a b:VT}(h:strOf a=strOf b):a=b:=by
 have:=congrArg (fun s:Str=>s.cps.toList) h;simpa [strOf] using this
theorem str_of_list(s:Str):strOf s.cps.toList=s:=by
 cases s with
 |mk c=>show(⟨c.toList.toArray⟩:Str)=⟨c⟩;simp
theorem EW: ∀l:List (List Nat),TL.so [] l=l.flatten
 |[]=>rfl
 |[p]=>by show p=[p].flatten;simp
 |p::q::r=>by
  show p++([]++TL.so [] (q::r))=_;rw[List.nil_append,EW (q::r)];rfl
theorem OQ(w:List Nat):Txt.join "" (w.map fun b=>(⟨#[b]⟩:Str))=strOf w:=by
 rw[TL.join_eq,<-str_of_list (Str.join _ _)]
 congr 1
 show TL.tl (Str.join "" _)=w;rw[TL.IC,show TL.tl ""=[] from by decide +kernel,EW,List.map_map]
 induction w with
 |nil=>rfl
 |cons b w ih=>rw[List.map_cons,List.flatten_cons,ih];rfl
def Throws(H:Hp)(C:Addr)(fs:List (Str×V))(E:XK):Prop:= ∀(H':Hp)(d:Addr),ai H H'->H d=none->H' d=some (XD d fs)->E (.ref C) (some d) H'
theorem Throws.same{H H1:Hp}{C:Addr}{fs:List (Str×V)}{E:XK}(h:Throws H C fs E)(s:ai H H1):Throws H1 C fs E:=fun H' d s2 hd e=>h H' d (s.trans s2) (s.free hd) e
def eP:Nat->Str
 |0=>"end" |1=>"word" |2=>"number" |3=>"quoted" |4=>"variable" |_=>"sign"
def m6(H:Hp)(k:Nat)(w:VT)(v:V):Prop:=
 match k with
 |0=>v= .aN
 |1=>v= .str (strOf w)
 |2=>v= .int (Vabldl.valueOf w:Nat)
 |3=> ∃p,v= .ref p/\H p=some (.tup (nums w))/\w.length<=1024
 |4=>v= .str (strOf w)
 |_=>v= .str (strOf w)
def rX(H:Hp)(C:Addr)(k:Nat)(w:VT)(p e:Nat)(Q:VK):Prop:= ∀(H':Hp)(x dx:Addr)(v:V),ai H H'->H x=none->m6 H' k w v->H' x=some (.ins C dx (zy (.str (eP k)) v (.int p) (.int e)))->Q (.ref x) H'
def lC(lo hi:Nat)(c:Nat):Bool:=decide (lo<=c)&&decide (c<=hi)
inductive GQ(vs:List V)(H:Hp)(Q:VK)(E:XK):Prop
 |mk(a:Addr)(t:VT)(i lo hi:Nat):vs=[.ref a,.int i,.int lo,.int hi]->H a=some (.tup (nums t))->i<=t.length->Q (.int (runEnd (lC lo hi) t i:Nat)) H->GQ vs H Q E
inductive Ez(C F:Addr)(vs:List V)(H:Hp)(Q:VK)(E:XK):Prop
 |mk(a:Addr)(t:VT)(p k st:Nat):vs=[.ref a,.int p,.str (eP k),.int st]->(k=1∨k=4)->H a=some (.tup (nums t))->st<=t.length->(if runEnd Vabldl.small t st=st∨16<runEnd Vabldl.small t st-st then Throws H F (dS (-12) p) E else rX H C k (bX t st (runEnd Vabldl.small t st)) p (runEnd Vabldl.small t st) Q)->Ez C F vs H Q E
theorem bW{K:FG}{H:Hp}{a:Addr}{xs:List V}(h:H a=some (.tup xs)):bu K H a xs:= .inl (.inl h)
theorem El(t:Tx K mg w):aB P w K mg base (aC P w cs) 5 t.pw.f t.pw.fd ["text","start","low","high"] GQ:=by
 refine t.pw.F.aJ true yd (fun vs H Q E h=>?_) (fun ay A outer s H vs Q E hr h=>?_)
 ·obtain⟨a,t,i,lo,hi,rfl,_⟩:=h;rfl
 ·obtain⟨a,x,i,lo,hi,rfl,ha,p8,k⟩:=h;refine⟨_,ak (aT 4 yd.nd (pv 1))
   (ak (jQ eu (PW.pt (mK (bg pE (pv 4) (bV dH rfl t.dy rfl (ae (pv 0) ag)) (bc _))
     (mG (rL gZ gZ (pv 2) (cf gY (pv 0) (pv 4) (fun _ _=>rfl)) (pv 3)))))
    (ao (vM (i:=4) yd.nd rfl (Or.inl rfl) aM ll)))
   (ao (aD (pv 4)))),?_⟩
  refine⟨_,rfl,fun kk σ H'=>H'=H/\ ∃j,σ=[some (.ref a),some (.int (i:Nat)),some (.int (lo:Nat)),some (.int (hi:Nat)),some (.int (j:Nat))]/\i<=j/\j<=x.length/\(∀q c,i<=q->q<j->x[q]? =some c->lC lo hi c=true)/\kk=x.length-j,
   ⟨_,rfl,i,rfl,Nat.le_refl _,p8,fun q c h1 h2 _=>by omega,rfl⟩,?_⟩
  rintro kk σ H' ⟨rfl,j,rfl,h1,h2,h3,rfl⟩;have fin:(∀c,x[j]? =some c->lC lo hi c=false)->Q (.int (j:Nat)) H':=fun h4=>by
   rw[PQ h1 h2 h3 h4] at k;exact k
  refine⟨_,rfl,_,rfl,a,_,rfl,.inr (bW ha),j,x.length,rfl,(by rw[a8]),_,rfl,?_⟩;refine bS (fun q=>?_) fun q=>kb ⟨_,rfl,fin fun c hc=>?_⟩
  ·have hj:j<x.length:=of_decide_eq_true q;obtain⟨c,hc⟩: ∃c,x[j]? =some c:=⟨_,List.getElem?_eq_getElem hj⟩;refine⟨_,rfl,_,rfl,_,rfl,a,_,_,_,rfl,rfl,bW ha,at_of (j:=j) rfl (e_ hc),lo,c,rfl,rfl,_,rfl,bS (fun q1=>⟨_,rfl,c,hi,rfl,rfl,_,rfl,bS (fun q2=>?_) fun q2=>⟨_,rfl,fin ?_⟩⟩) fun q1=>⟨_,rfl,kb ⟨_,rfl,fin ?_⟩⟩⟩
   ·refine⟨fun σ' H2=>H2=H'/\σ'=[some (.ref a),some (.int (i:Nat)),some (.int (lo:Nat)),some (.int (hi:Nat)),some (.int ((j+1:Nat):Int))],?_,?_⟩
    ·rintro σ' H2 ⟨rfl,rfl⟩;refine⟨_,by omega,rfl,j+1,rfl,by omega,hj,fun q' c' g1 g2 g3=>?_,rfl⟩
     by_cases e:q'=j
     ·subst e;rw[hc] at g3;cases g3;unfold lC;rw[q1,q2];rfl
     ·exact h3 q' c' g1 (by omega) g3
    ·exact⟨_,rfl,j,1,rfl,rfl,rfl,rfl⟩
   ·intro c' g;rw[hc] at g;cases g;unfold lC;rw[q1,q2];rfl
   ·intro c' g;rw[hc] at g;cases g;unfold lC;rw[q1];rfl
  ·have:=(List.getElem?_eq_some_iff.mp hc).1;have q':=of_decide_eq_false q;omega
theorem OR: ∀i,i<26->kj ("abcdefghijklmnopqrstuvwxyz":Str).cps.toList ((i:Nat):Int)=some (97+i):=by decide +kernel
theorem rn(t:VT){i j:Nat}(h:j<=t.length):(bX t i j).length=j-i:=by
 unfold bX;rw[List.length_take,List.length_drop];omega
theorem yu{t:VT}{i j q c:Nat}(h:(bX t i j)[q]? =some c):t[i+q]? =some c/\q<j-i:=by
 unfold bX at h;rw[List.getElem?_take] at h
 split at h
 ·rw[List.getElem?_drop] at h;exact⟨h,by assumption⟩
 ·cases h
theorem GX: ∀w:List Nat,((w.map fun b=>(⟨#[b]⟩:Str)).map (·.length)).sum=w.length
 |[]=>rfl
 |b::w=>by
  rw[List.map_cons,List.map_cons,List.sum_cons,GX w,List.length_cons,show(⟨#[b]⟩:Str).length=1 from rfl,Nat.add_comm]
theorem B5(t:Tx K mg w):aB P w K mg base (aC P w cs) 6 t.ou.f t.ou.fd ["text","position","form","start"] (Ez t.ba.C t.dq.C):=by
 refine t.ou.F.aJ true qz (fun vs H Q E h=>?_) (fun ay A outer s H vs Q E hr h=>?_)
 ·obtain⟨a,x,p,k,st,rfl,_⟩:=h;rfl
 ·obtain⟨a,x,p,k,st,rfl,hk,ha,bL,g⟩:=h;obtain⟨ta,ea⟩:=t.yL;obtain⟨tz,ez⟩:=t.yM;obtain⟨tw,ew⟩:=t.C0;obtain⟨tl,el⟩:=t.F5;have dN:az 4 _:=hr.mono (by decide);have cP:az 2 _:=hr.mono (by decide);refine⟨_,ak (aT 4 qz.nd (aK t.pw (El (cs:=cs) t) hr (ax (cs:=cs)) (ae (pv 0)<|ae (pv 3)<|ae (bw (v:= .int 97) rfl ea ⟨_,rfl⟩)<|ae (bw (v:= .int 122) rfl ez ⟨_,rfl⟩) ag)))<|
   ak (a9 (lz (rL gZ gZ aM (a0 vA (pv 4) (pv 3)) (bw (v:= .int 16) rfl ew ⟨_,rfl⟩)))
    (ao (jg aE rfl (t.gL.d3 rfl) (uw (cs:=cs) t) dN rfl t.dq.m t.gL.b (ax (cs:=cs)) (ae (pv 1) ag))) a_)<|
   ak (aT 5 qz.nd (Si aZ (lG (own:=[("byte",6)]) rfl qz.nd (zr (o_ si (pv 0) (gW (pv 3)) (gW (pv 4)))) (gS rfl)
    (fun _ _ _ _ _=>dc (i:=6) qz.nd rfl (Or.inl rfl)) (fun _ _ _ _ _=>jT) (fun _ _ _ _ _=>cf Td (bw (v:= .str "abcdefghijklmnopqrstuvwxyz") rfl el ⟨_,rfl⟩) (a0 vA (pv 6) (bw (v:= .int 97) rfl ea ⟨_,rfl⟩)) (fun _ _=>rfl)))))<|
   ao (aD (fO (t.fM.fG rfl) (rK (cs:=cs) t) cP rfl t.ba.m t.fM.b .nil (ax (cs:=cs)) (ae (pv 2)<|ae (pv 5)<|ae (pv 1)<|ae (pv 4) ag))),?_⟩
  refine⟨_,rfl,_,rfl,a,x,st,97,122,rfl,ha,bL,?_⟩;have he:runEnd (lC 97 122) x st=runEnd Vabldl.small x st:=rfl;rw[he];generalize hE:runEnd Vabldl.small x st=e at*;have h1:st<=e:=by rw[<-hE];exact k_ _ _ _
  have h2:e<=x.length:=by rw[<-hE];exact rC _ bL
  refine⟨_,rfl,_,rfl,e,st,rfl,rfl,h1,1,e-st,rfl,rfl,_,rfl,bS (fun q1=>⟨e-st,16,rfl,rfl,_,rfl,bS (fun q2=>?_) fun q2=>?_⟩) fun q1=>⟨_,rfl,?_⟩⟩
  ·
   have c:e=st∨16<e-st:= .inr (Nat.lt_of_not_le (of_decide_eq_false (show decide (e-st<=16)=false by rw[<-Bool.not_eq_true'];exact q2)));rw[if_pos c] at g;exact⟨_,rfl,(by show 1<=sizeLine;decide),fun d hd=>d4 t.dq [(p:Int)] rfl hd g⟩
  ·have c: ¬(e=st∨16<e-st):=by
    have z2:decide (e-st<=16)=true:=by rw[<-Bool.not_eq_false'];exact q2
    have z1:=of_decide_eq_true q1;have z2:=of_decide_eq_true z2;omega
   rw[if_neg c] at g;have bH:(bX x st e).length<=16:=by rw[rn x h2];omega
   refine⟨⟨_,rfl⟩,_,rfl,_,rfl,_,rfl,_,rfl,_,rfl,a,x,st,e,rfl,rfl,rfl,ha,bL,h2,fun H1 p1 dm ku=>⟨p1,rfl,⟨_,bW ku⟩,fun D hD=>?_⟩⟩;refine zi (K:=K) (a:=p1) (xs:=nums (bX x st e)) (fun i H'=>ai H H'/\ai H1 H'/\H' D=some (.lst ((((bX x st e).take i).map fun b=>(⟨#[b]⟩:Str)).map V.str))) ⟨dm.trans (ai.new hD),ai.new hD,au⟩ (fun i H' _ ⟨_,hs,_⟩=>hs.Am (bW ku)) (fun i y H' hi ⟨hs,ip,hl⟩=>?_) (fun H' ⟨hs,ip,hl⟩=>?_)
   ·obtain⟨c,hc,rfl⟩:=iE hi;obtain⟨ko,W8⟩:=yu hc;have dz:Vabldl.small c=true:=uP (f:=Vabldl.small) (t:=x) (i:=st) (k:=st+i) (by omega) (by rw[hE];omega) ko;unfold Vabldl.small at dz;rw[Bool.and_eq_true] at dz;have l1:=of_decide_eq_true dz.1;have l2:=of_decide_eq_true dz.2;have Ls:=OR (c-97) (by omega);rw[show 97+(c-97)=c by omega] at Ls;refine⟨rfl,yes ⟨_,rfl,c,97,rfl,rfl,l1,_,_,c,rfl,rfl,(by decide +kernel),Ls,_,hl,?_,ai.cM hs (dm.free hD),ai.cM ip hD,?_⟩⟩
    ·rw[List.length_map,List.length_map,List.length_take];exact Nat.lt_of_le_of_lt (Nat.min_le_right _ _) (Nat.lt_of_le_of_lt bH (by decide))
    ·rw[au,take_snoc hc,List.map_append,List.map_append];rfl
   ·rw[a8,List.take_length] at hl;refine⟨_,D,(bX x st e).map fun b=>(⟨#[b]⟩:Str),rfl,rfl,.inl (aA.of hl),?_,?_⟩
    ·rw[GX,List.length_map,show("":Str).length=0 from by decide +kernel];exact Nat.le_trans (by omega) (show 16<=16777216 by decide)
    rw[OQ];refine⟨_,rfl,_,rfl,_,rfl,_,rfl,fun b db hb bC bo=>?_⟩;refine jq (us:=[_,_,_,_]) rfl hb bC bo fun H2 b' gz aY cy _ _ e2=>?_;have s2:=hs.trans aY;refine g H2 b' gz (.str (strOf (bX x st e))) s2 (hs.free cy) ?_ e2;rcases hk with rfl |rfl<;>rfl
  ·have c:e=st∨16<e-st:= .inl (by have:=of_decide_eq_false q1;omega);rw[if_pos c] at g;exact⟨_,rfl,(by show 1<=sizeLine;decide),fun d hd=>d4 t.dq [(p:Int)] rfl hd g⟩
inductive GL(C F:Addr)(vs:List V)(H:Hp)(Q:VK)(E:XK):Prop
 |mk(a:Addr)(t:VT)(p c:Nat):vs=[.ref a,.int p]->H a=some (.tup (nums t))->t[p]? =some c->Vabldl.digit c=true->t.length<sizeLine->(if 2<runEnd Vabldl.digit t p-p∨(c=48/\1<runEnd Vabldl.digit t p-p) then Throws H F (dS (-12) p) E else rX H C 2 (bX t p (runEnd Vabldl.digit t p)) p (runEnd Vabldl.digit t p) Q)->GL C F vs H Q E
theorem N0(l:List Nat)(c:Nat):Vabldl.valueOf (l++[c])=10*Vabldl.valueOf l+(c-48):=by
 unfold Vabldl.valueOf;rw[List.foldl_append];rfl
theorem QY{X:Cx}:bJ X (binaryOp .Mult) (fun x y H Q=> ∃a:Nat,x= .int (a:Int)/\y= .int 10/\Q (.int ((10*a:Nat):Int)) H):=by
 rintro aa s σ H x y v u Q I rx ry ⟨a,ex,ey,q⟩;exact Tz aa s σ H x y v u Q I rx ry ⟨a,10,ex,ey,.inr (by decide),by show Q (.int ((a:Int)*10)) H;rw[show((a:Int)*10)=((10*a:Nat):Int) from by omega];exact q⟩
theorem Ta{tc:TT}{t u rest:TS}{D:Ends}{σ:L2.St}{H:Hp}(b:Bool)(h: ∀R:Bool->Hp->Prop,R b H->tc σ H R)(ht:b=true->ff t rest D σ H)(hu:b=false->ff u rest D σ H):ff (lP tc t u) rest D σ H:=
 h _ (bS ht hu)
theorem MW(t:Tx K mg w):aB P w K mg base (aC P w cs) 6 t.qN.f t.qN.fd ["text","position"] (GL t.ba.C t.dq.C):=by
 refine t.qN.F.aJ true md (fun vs H Q E h=>?_) (fun ay A outer s H vs Q E hr h=>?_)
 ·obtain⟨a,x,p,c,rfl,_⟩:=h;rfl
 ·obtain⟨a,x,p,c,rfl,ha,hc,Vu,hz,g⟩:=h;obtain⟨ta,ea⟩:=t.yJ;obtain⟨tz,ez⟩:=t.yK;obtain⟨tw,ew⟩:=t.Cv;have dN:az 4 _:=hr.mono (by decide);have cP:az 2 _:=hr.mono (by decide);refine⟨_,ak (aT 2 md.nd (aK t.pw (El (cs:=cs) t) hr (ax (cs:=cs)) (ae (pv 0)<|ae (pv 1)<|ae (bw (v:= .int 48) rfl ea ⟨_,rfl⟩)<|ae (bw (v:= .int 57) rfl ez ⟨_,rfl⟩) ag)))<|
   ak (yR (i:=3) (own:=[("byte",6)]) rfl md.nd rfl rfl (zd rfl rfl rfl rfl) (zr (o_ si (pv 0) (gW (pv 1)) (gW (pv 2)))) (gS rfl)
    (fun _ _ _ _ _=>dc (i:=6) md.nd rfl (Or.inl rfl)) (fun _ _ _ _ _=>jT) (fun _ _ _ _ _=>a0 vA (pv 6) (bw (v:= .int 48) rfl ea ⟨_,rfl⟩)))<|
   ak (a9 (PW.pt (v7 (bg pD (bV dH rfl t.dy rfl (ae (pv 3) ag)) (bw (v:= .int 2) rfl ew ⟨_,rfl⟩) (bc _))
     (vP (PW.pt (mK (bg pD (bV dH rfl t.dy rfl (ae (pv 3) ag)) aM (bc _)) (mG (bg dE (cf d5 (pv 3) aM (fun _ _=>rfl)) aM (bc _))))))))
    (ao (jg aE rfl (t.gL.d3 rfl) (uw (cs:=cs) t) dN rfl t.dq.m t.gL.b (ax (cs:=cs)) (ae (pv 1) ag))) a_)<|
   ak (aT 4 md.nd aM)<|
   ak (jW eu rfl (gf (pv 3)) (dc (i:=5) md.nd rfl (Or.inl rfl)) (ao (aT 4 md.nd (a0 iI (a0 QY (pv 4) aM) (pv 5)))))<|
   ao (aD (fO (t.fM.fG rfl) (rK (cs:=cs) t) cP rfl t.ba.m t.fM.b .nil (ax (cs:=cs)) (ae aZ<|ae (pv 4)<|ae (pv 1)<|ae (pv 2) ag))),?_⟩
  have hp:p<x.length:=(List.getElem?_eq_some_iff.mp hc).1;refine⟨_,rfl,_,rfl,a,x,p,48,57,rfl,ha,Nat.le_of_lt hp,?_⟩;have he:runEnd (lC 48 57) x p=runEnd Vabldl.digit x p:=rfl;rw[he];generalize hE:runEnd Vabldl.digit x p=e at*;have h1:p<=e:=by rw[<-hE];exact k_ _ _ _
  have h2:e<=x.length:=by rw[<-hE];exact rC _ (Nat.le_of_lt hp)
  have h3:p<e:=by
   rcases Nat.lt_or_eq_of_le h1 with q |q
   ·exact q
   ·have:=uI (f:=Vabldl.digit) (t:=x) (i:=p) (c:=c) (by rw[hE,<-q];exact hc);rw[Vu] at this;cases this
  refine⟨_,rfl,_,rfl,_,rfl,_,rfl,_,rfl,a,x,p,e,rfl,rfl,rfl,ha,Nat.le_of_lt hp,h2,fun H1 p1 dm ku=>⟨p1,rfl,⟨_,bW ku⟩,fun D hD=>?_⟩⟩;have Le: ∀(i c:Nat),(bX x p e)[i]? =some c->48<=c:=fun i c hc=>by
   obtain⟨ko,W8⟩:=yu hc;have dz:Vabldl.digit c=true:=uP (f:=Vabldl.digit) (t:=x) (i:=p) (k:=p+i) (by omega) (by rw[hE];omega) ko;unfold Vabldl.digit at dz;rw[Bool.and_eq_true] at dz;exact of_decide_eq_true dz.1
  have bH:(bX x p e).length=e-p:=rn x h2;refine zi (K:=K) (a:=p1) (xs:=nums (bX x p e)) (fun i H'=>ai H H'/\ai H1 H'/\H' D=some (.lst (nums (((bX x p e).take i).map (· -48))))) ⟨dm.trans (ai.new hD),ai.new hD,au⟩ (fun i H' _ ⟨_,hs,_⟩=>hs.Am (bW ku)) (fun i y H' hi ⟨hs,ip,hl⟩=>?_) (fun H' ⟨hs,ip,hl⟩=>?_)
  ·obtain⟨c,hc,rfl⟩:=iE hi;refine⟨rfl,yes ⟨_,rfl,c,48,rfl,rfl,Le i c hc,_,hl,?_,ai.cM hs (dm.free hD),ai.cM ip hD,?_⟩⟩
   ·rw[a8,List.length_map,List.length_take];exact Nat.lt_of_le_of_lt (Nat.min_le_right _ _) (by omega)
   ·rw[au,take_snoc hc,List.map_append,eZ];rfl
  ·rw[a8,List.take_length] at hl;have bP:(nums ((bX x p e).map (· -48))).length=e-p:=by rw[a8,List.length_map,bH]
   have first:(bX x p e)[0]? =some c:=by
    unfold bX;rw[List.getElem?_take,if_pos (by omega),List.getElem?_drop];exact hc
   have YG:=Le 0 c first
   dsimp only [d6,de,Ends.d9];refine Ta (decide (2<e-p∨(c=48/\1<e-p))) (fun R hR=>?_) (fun z=>?_) fun z=>?_
   ·refine⟨_,rfl,D,_,rfl,.inl (aA.of hl),e-p,2,(by rw[bP]),rfl,_,rfl,bS (fun q1=>?_) fun q1=>?_⟩
    ·rw[decide_eq_true (.inl (of_decide_eq_true q1))] at hR;exact hR
    have a1:=of_decide_eq_false q1;refine⟨_,rfl,D,_,rfl,.inl (aA.of hl),e-p,1,(by rw[bP]),rfl,_,rfl,bS (fun q2=>?_) fun q2=>?_⟩
    ·refine⟨_,rfl,D,_,_,_,rfl,rfl,aA.of hl,at_of (j:=0) rfl (e_ (m:=c-48) (by rw[List.getElem?_map,first];rfl)),c-48,0,rfl,rfl,_,rfl,?_⟩;have a2:=of_decide_eq_true q2;rw[show decide (2<e-p∨(c=48/\1<e-p))=decide (c-48=0) from decide_eq_decide.mpr ⟨fun h=>by omega,fun h=> .inr ⟨by omega,a2⟩⟩] at hR;exact hR
    ·have a2:=of_decide_eq_false q2;rw[decide_eq_false (by omega)] at hR;exact hR
   ·rw[if_pos (of_decide_eq_true z)] at g;exact⟨_,rfl,(by show 1<=sizeLine;decide),fun d hd=>d4 t.dq [(p:Int)] rfl hd (g.same hs)⟩
   ·rw[if_neg (of_decide_eq_false z)] at g;refine⟨_,rfl,D,rfl,⟨_,aA.of hl⟩,?_⟩;refine mz (K:=K) (a:=D) (xs:=nums ((bX x p e).map (· -48))) (fun i σ H2=>H2=H'/\ ∃v5 v6:Option V,σ=[some (.ref a),some (.int (p:Nat)),some (.int (e:Nat)),some (.ref D),some (.int (Vabldl.valueOf ((bX x p e).take i):Nat)),v5,v6]) ⟨rfl,_,_,rfl⟩ (fun i σ H2 _ ⟨q,_⟩=>by rw[q];exact aA.of hl) ?_ ?_
    ·rintro i y σ H2 hy ⟨rfl,v5,v6,rfl⟩;obtain⟨m,hm,rfl⟩:=iE hy;rw[List.getElem?_map] at hm;obtain⟨c',wN,rfl⟩:=Option.map_eq_some_iff.mp hm;refine⟨_,rfl,_,rfl,rfl,_,rfl,_,_,rfl,rfl,rfl,some (.int ((c'-48:Nat):Int)),v6,?_⟩;rw[take_snoc wN,N0];rfl
    ·rintro σ H2 ⟨rfl,v5,v6,rfl⟩;rw[a8,List.length_map,List.take_length];refine⟨_,rfl,_,rfl,_,rfl,fun b db hb bC bo=>?_⟩;refine jq (us:=[_,_,_,_]) rfl hb bC bo fun H3 b' gz aY cy _ _ e2=>?_;exact g H3 b' gz _ (hs.trans aY) (hs.free cy) rfl e2
theorem RO{tc:TT}{t u rest:TS}{D:Ends}{σ:L2.St}{H:Hp}(b:Bool)(h: ∀R:Bool->Hp->Prop,(∀H',ai H H'->R b H')->tc σ H R)(ht: ∀H',ai H H'->b=true->ff t rest D σ H')(hu: ∀H',ai H H'->b=false->ff u rest D σ H'):ff (lP tc t u) rest D σ H:=
 h _ fun H' s=>bS (ht H' s) (hu H' s)
theorem rP{tc:TT}{σ:L2.St}{H:Hp}{A B:Hp->Prop}(b:Bool)(h: ∀R:Bool->Hp->Prop,R b H->tc σ H R)(ht:b=true->A H)(hu:b=false->B H):tc σ H fun b H1=>if b=true then A H1 else B H1:=h _ (bS ht hu)
inductive GP(C F:Addr)(vs:List V)(H:Hp)(Q:VK)(E:XK):Prop
 |mk(a:Addr)(t:VT)(p:Nat):vs=[.ref a,.int p]->H a=some (.tup (nums t))->p<t.length->t.length<sizeLine->(if runEnd Vabldl.nameByte t (p+1)=p+1∨40<runEnd Vabldl.nameByte t (p+1)-(p+1)∨t[runEnd Vabldl.nameByte t (p+1)]? ≠some 34 then Throws H F (dS (-12) p) E
  else rX H C 3 (bX t (p+1) (runEnd Vabldl.nameByte t (p+1))) p (runEnd Vabldl.nameByte t (p+1)+1) Q)->GP C F vs H Q E
theorem OP{x:VT}{i e:Nat}(hE:runEnd Vabldl.nameByte x i=e)(h1:i<=e)(h2:e<=x.length):Vabldl.goodText (bX x i e)=decide (¬(e=i∨40<e-i)):=by
 have all:(bX x i e).all Vabldl.nameByte=true:=by
  rw[List.all_eq_true];intro c hc;obtain⟨q,hq⟩:=List.mem_iff_getElem?.mp hc;obtain⟨g1,g2⟩:=yu hq;exact uP (f:=Vabldl.nameByte) (t:=x) (i:=i) (k:=i+q) (by omega) (by rw[hE];omega) g1
 rw[xR,all,Bool.and_true,rn x h2,<-Bool.decide_and];exact decide_eq_decide.mpr ⟨fun h=>by omega,fun h=>by omega⟩
theorem MX(t:Tx K mg w):aB P w K mg base (aC P w cs) 7 t.qO.f t.qO.fd ["text","position"] (GP t.ba.C t.dq.C):=by
 refine t.qO.F.aJ true qD (fun vs H Q E h=>?_) (fun ay A outer s H vs Q E hr h=>?_)
 ·obtain⟨a,x,p,rfl,_⟩:=h;rfl
 ·obtain⟨a,x,p,rfl,ha,hp,hz,g⟩:=h;obtain⟨tq,eq⟩:=t.rY;have bj:az 5 _:=hr.mono (by decide);have dN:az 4 _:=hr.mono (by decide);have cP:az 2 _:=hr.mono (by decide);refine⟨_,ak (aT 2 qD.nd (a0 iI (pv 1) aM))<|
   ak (aT 3 qD.nd (pv 2))<|
   ak (jQ eu (PW.pt (mK (bg pE (pv 3) (bV dH rfl t.dy rfl (ae (pv 0) ag)) (bc _))
     (mG (c0 (aK t.oC (Cw (cs:=cs) t) bj (ax (cs:=cs)) (ae (cf gY (pv 0) (pv 3) (fun _ _=>rfl)) ag))))))
    (ao (vM (i:=3) qD.nd rfl (Or.inl rfl) aM ll)))<|
   ak (aT 4 qD.nd (vK (ji pE (pv 3) (bV dH rfl t.dy rfl (ae (pv 0) ag)) (bc _)) (vL (ji dE (cf gY (pv 0) (pv 3) (fun _ _=>rfl)) (bw (v:= .int 34) rfl eq ⟨_,rfl⟩) (bc _)))))<|
   ak (a9 (PW.pt (v7 (lz (c0 (pv 4))) (vP (lz (c0 (aK t.pq (Ej (cs:=cs) t) hr (ax (cs:=cs)) (ae (o_ si (pv 0) (gW (pv 2)) (gW (pv 3))) ag)))))))
    (ao (jg aE rfl (t.gL.d3 rfl) (uw (cs:=cs) t) dN rfl t.dq.m t.gL.b (ax (cs:=cs)) (ae (pv 1) ag))) a_)<|
   ao (aD (fO (t.fM.fG rfl) (rK (cs:=cs) t) cP rfl t.ba.m t.fM.b .nil (ax (cs:=cs)) (ae aZ<|ae (o_ si (pv 0) (gW (pv 2)) (gW (pv 3)))<|ae (pv 1)<|ae (a0 iI (pv 3) aM) ag))),?_⟩
  refine⟨_,rfl,p,1,rfl,rfl,_,rfl,?_⟩;generalize hE:runEnd Vabldl.nameByte x (p+1)=e at*;have h1:p+1<=e:=by rw[<-hE];exact k_ _ _ _
  have h2:e<=x.length:=by rw[<-hE];exact rC _ hp
  refine⟨fun kk σ H'=>H'=H/\ ∃j,σ=[some (.ref a),some (.int (p:Nat)),some (.int ((p+1:Nat):Int)),some (.int (j:Nat)),none]/\p+1<=j/\j<=e/\kk=e-j,
   ⟨_,rfl,p+1,rfl,Nat.le_refl _,h1,rfl⟩,?_⟩
  rintro kk σ H' ⟨rfl,j,rfl,tL,LB,rfl⟩;refine rP (decide (j<e)) (fun R hR=>?_) (fun z=>?_) fun z=>?_
  ·refine⟨_,rfl,_,rfl,a,_,rfl,.inr (bW ha),j,x.length,rfl,(by rw[a8]),_,rfl,bS (fun q=>?_) fun q=>?_⟩
   ·have hj:j<x.length:=of_decide_eq_true q;obtain⟨c,hc⟩: ∃c,x[j]? =some c:=⟨_,List.getElem?_eq_getElem hj⟩;refine⟨_,rfl,_,rfl,a,_,_,_,rfl,rfl,bW ha,at_of (j:=j) rfl (e_ hc),c,rfl,_,rfl,?_⟩;have hn:Vabldl.nameByte c=decide (j<e):=by
     by_cases nu:j<e
     ·rw[decide_eq_true nu];exact uP (f:=Vabldl.nameByte) (t:=x) (i:=p+1) (k:=j) tL (by rw[hE];exact nu) hc
     ·rw[decide_eq_false nu];have:j=e:=by omega
      exact uI (f:=Vabldl.nameByte) (t:=x) (i:=p+1) (c:=c) (by rw[hE,<-this];exact hc)
    rw[hn];exact hR
   ·have hj:=of_decide_eq_false q;rw[decide_eq_false (by omega)] at hR;exact hR
  ·have nu:=of_decide_eq_true z;refine⟨fun σ' H2=>H2=H'/\σ'=[some (.ref a),some (.int (p:Nat)),some (.int ((p+1:Nat):Int)),some (.int ((j+1:Nat):Int)),none],?_,?_⟩
   ·rintro σ' H2 ⟨rfl,rfl⟩;exact⟨_,by omega,rfl,j+1,rfl,by omega,nu,rfl⟩
   ·exact⟨_,rfl,j,1,rfl,rfl,rfl,rfl⟩
  ·have nu:j=e:=by have:=of_decide_eq_false z;omega
   subst nu;have cl: ∀R:VK,R (.bl (decide (x[j]? =some 34))) H'->Kf (jG (fun x y H Q=> ∃a b:Nat,x= .int (a:Int)/\y= .int (b:Int)/\Q (.bl (decide (a<b))) H) (dU 3) (xj (fun xs H Q=> ∃p ys,xs=[.ref p]/\(aA K H p ys∨bu K H p ys)/\Q (.int ys.length) H) (iO (dU 0) iT)))
     (jG (fun x y H Q=> ∃a b:Nat,x= .int (a:Int)/\y= .int (b:Int)/\Q (.bl (decide (a=b))) H) (jG (Ak K) (dU 0) (dU 3)) (tC (.int 34))) [some (.ref a),some (.int (p:Nat)),some (.int ((p+1:Nat):Int)),some (.int (j:Nat)),none] H' R:=fun R hR=>by
    refine⟨_,rfl,_,rfl,a,_,rfl,.inr (bW ha),j,x.length,rfl,(by rw[a8]),_,rfl,bS (fun q=>?_) fun q=>?_⟩
    ·have hj:j<x.length:=of_decide_eq_true q;obtain⟨c,hc⟩: ∃c,x[j]? =some c:=⟨_,List.getElem?_eq_getElem hj⟩;refine⟨_,rfl,_,rfl,a,_,_,_,rfl,rfl,bW ha,at_of (j:=j) rfl (e_ hc),c,34,rfl,rfl,?_⟩;rw[hc,show decide (some c=some 34)=decide (c=34) from decide_eq_decide.mpr ⟨Option.some.inj,fun h=>by rw[h]⟩] at hR;exact hR
    ·have hj:=of_decide_eq_false q;rw[List.getElem?_eq_none (by omega),decide_eq_false (by intro h;cases h)] at hR;exact hR
   refine cl _ ?_;dsimp only [d6,de,Ends.d9];refine RO (decide (j=p+1∨40<j-(p+1)∨x[j]? ≠some 34)) (fun R hR=>?_) (fun H2 hs z=>?_) fun H2 hs z=>?_
   ·refine⟨_,rfl,_,rfl,bS (fun q=>?_) fun q=>?_⟩
    ·have q':decide (x[j]? =some 34)=false:=by rw[<-Bool.not_eq_true'];exact q
     have:=hR H' (ai.refl H');rw[decide_eq_true (.inr (.inr (of_decide_eq_false q')))] at this;exact this
    ·have q':decide (x[j]? =some 34)=true:=by rw[<-Bool.not_eq_false'];exact q
     have q':=of_decide_eq_true q';refine⟨_,rfl,_,rfl,_,rfl,_,rfl,_,rfl,a,x,p+1,j,rfl,rfl,rfl,ha,hp,h2,fun H1 p1 dm ku=>⟨p1,_,rfl,bW ku,?_,fun H2 aY=>⟨_,rfl,?_⟩⟩⟩
     ·have:=rn x (i:=p+1) h2;unfold bX at this;omega
     ·have:=hR H2 (dm.trans aY);have e1:=OP hE h1 h2;unfold bX at e1;rw[e1];show R (!decide (¬(j=p+1∨40<j-(p+1)))) H2;rw[show(!decide (¬(j=p+1∨40<j-(p+1))))=decide (j=p+1∨40<j-(p+1)∨x[j]? ≠some 34) from ?_]
      ·exact this
      ·rw[<-decide_not];exact decide_eq_decide.mpr ⟨fun h=>by
        have h:=Decidable.not_not.mp h;rcases h with h |h
        ·exact .inl h
        ·exact .inr (.inl h),fun h g=>by
        rcases h with h |h |h
        ·exact g (.inl h)
        ·exact g (.inr h)
        ·exact h q'⟩
   ·rw[if_pos (of_decide_eq_true z)] at g;exact⟨_,rfl,(by show 1<=sizeLine;decide),fun d hd=>d4 t.dq [(p:Int)] rfl hd (g.same hs)⟩
   ·rw[if_neg (of_decide_eq_false z)] at g;refine⟨_,rfl,_,rfl,_,rfl,_,rfl,_,rfl,a,x,p+1,j,rfl,rfl,rfl,hs _ _ ha,hp,h2,fun H1 p1 dm ku=>?_⟩;refine⟨_,rfl,_,rfl,j,1,rfl,rfl,fun b db hb bC bo=>?_⟩;refine jq (us:=[_,_,_,_]) rfl hb bC bo fun H3 b' gz aY cy _ _ e2=>?_;exact g H3 b' gz _ ((hs.trans dm).trans aY) ((hs.trans dm).free cy) ⟨p1,rfl,aY _ _ ku,by rw[rn x h2];have:=of_decide_eq_false z;omega⟩ e2
theorem aS{tc:TT}{t rest:TS}{D:Ends}{σ:L2.St}{H:Hp}(b:Bool)(h: ∀R:Bool->Hp->Prop,R b H->tc σ H R)(ht:b=true->ff t rest D σ H)(hu:b=false->rest D σ H):ff (lP tc t pN) rest D σ H:=
 h _ (bS ht hu)
theorem bI{tc:TT}{t rest:TS}{D:Ends}{σ:L2.St}{H:Hp}(h: ∀R:Bool->Hp->Prop,R false H->tc σ H R)(hu:rest D σ H):ff (lP tc t pN) rest D σ H:=aS false h (fun z=>by cases z) fun _=>hu
theorem gX{tc:TT}{t rest:TS}{D:Ends}{σ:L2.St}{H:Hp}(h: ∀R:Bool->Hp->Prop,R true H->tc σ H R)(ht:ff t rest D σ H):ff (lP tc t pN) rest D σ H:=aS true h (fun _=>ht) fun z=>by cases z
section
variable{X:Cx}{o i:Expr}{td ty:TE}{pos:Pos}
theorem Jk:bJ X (compareOp .In) (fun x y H Q=> ∃a af k,x=kV k/\y= .ref a/\KD X.K X.w a af/\Q (.bl (bM af k).isSome) H):=by
 rintro aa s σ H x y v u Q I rx ry ⟨a,af,k,rfl,rfl,D,q⟩;cases ry;obtain⟨vs,rel,dd⟩:=D.at_ X.prog s.heap I.bN;refine wpAny_in_of (lD rx) D.sm dd.mapOf ?_;rw[<-(rel.val k).oP];exact⟨.bl _,H,I.tok _,rfl,q⟩
inductive Iw(K:FG)(w:World)(Q:VK)(x y:V)(H2:Hp):Prop
 |mk a af k v:x= .ref a->y=kV k->KD K w a af->bM af k=some v->Q v H2->Iw K w Q x y H2
def SJ(K:FG)(w:World)(ty:TE)(σ:L2.St)(Q:VK):VK:=fun x H1=>ty σ H1 (Iw K w Q x)
def U5(K:FG)(w:World)(td ty:TE):TE:=fun σ H Q=>td σ H (SJ K w ty σ Q)
theorem HK(ho:PE X o td)(hi:PE X i ty)(hs:zT i):PE X (.Subscript o i pos) (U5 X.K X.w td ty):=by
 intro aa s σ H Q I h;refine Ir PySem.F.slot_dict_getitem.lookup hs (aF (ho aa s σ H _ I h) fun u s1 ⟨x,H1,I1,rx,q1⟩=>aF (hi aa s1 σ H1 _ I1 q1) fun iv s2 ⟨y,H2,I2,ry,a,af,k,v,ex,ey,D,l,q2⟩=>?_);subst ex ey;obtain rfl:u=Value.ref a:=rx;obtain⟨vs,rel,dd⟩:=D.at_ X.prog s2.heap I2.bN;obtain⟨w',hw,gI⟩:=di.some_of (v:=v) (o:=valueAt vs k) (by rw[<-l];exact rel.val k);exact⟨dd.typeIs,wpAny_getItem_of (lD ry) dd.mapOf hw ⟨v,H2,I2.tok _,gI,q2⟩⟩
end
abbrev pG:List (Key×V):=[(.inl 40,.str "("),(.inl 41,.str ")"),(.inl 44,.str ","),(.inl 43,.str "+"),(.inl 45,.str "-"),(.inl 38,.str "&"),(.inl 61,.str "=")]
theorem Rl(c:Nat):(bM pG (.inl (c:Int))).isSome=Vabldl.signs.contains c:=by
 by_cases h:c<62
 ·have: ∀c:Nat,c<62->(bM pG (.inl (c:Int))).isSome=Vabldl.signs.contains c:=by decide +kernel
  exact this c h
 ·have e1:Vabldl.signs=[40,41,44,43,45,38,61]:=by decide +kernel
  have n: ∀k:Nat,k<62-> ¬(Sum.inl (k:Int):Key)= .inl (c:Int):=fun k hk e=>by
   have:=Sum.inl.inj e;omega
  have e2:bM pG (.inl (c:Int))=none:=by
   unfold bM;rw[Option.map_eq_none_iff,List.find?_eq_none];intro x hx;simp only [pG,List.mem_cons,List.not_mem_nil,or_false] at hx;rcases hx with rfl |rfl |rfl |rfl |rfl |rfl |rfl
   ·exact fun z=>n 40 (by decide) (of_decide_eq_true z)
   ·exact fun z=>n 41 (by decide) (of_decide_eq_true z)
   ·exact fun z=>n 44 (by decide) (of_decide_eq_true z)
   ·exact fun z=>n 43 (by decide) (of_decide_eq_true z)
   ·exact fun z=>n 45 (by decide) (of_decide_eq_true z)
   ·exact fun z=>n 38 (by decide) (of_decide_eq_true z)
   ·exact fun z=>n 61 (by decide) (of_decide_eq_true z)
  rw[e2,e1];have: ∀k∈([40,41,44,43,45,38,61]:List Nat),k<62:=by decide
  symm
  show _=false;rw[List.contains_eq_mem,decide_eq_false];exact fun z=>h (this c z)
theorem signs_at{c:Nat}(h:Vabldl.signs.contains c=true):bM pG (.inl (c:Int))=some (.str (strOf [c])):=by
 have e1:Vabldl.signs=[40,41,44,43,45,38,61]:=by decide +kernel
 have all: ∀c∈([40,41,44,43,45,38,61]:List Nat),bM pG (.inl (c:Int))=some (.str (strOf [c])):=by decide +kernel
 refine all c ?_;rw[e1,List.contains_eq_mem] at h;exact of_decide_eq_true h
inductive FF(C F:Addr)(vs:List V)(H:Hp)(Q:VK)(E:XK):Prop
 |mk(a:Addr)(t:VT)(p c:Nat):vs=[.ref a,.int p]->H a=some (.tup (nums t))->t[p]? =some c->t.length<sizeLine->(match lI t p c with
 |none=>Throws H F (dS (-12) p) E
 |some (k,w,e)=>rX H C k w p e Q)->FF C F vs H Q E
theorem Ov(t:Tx K mg w):aB P w K mg base (aC P w cs) 8 t.rM.f t.rM.fd ["text","position"] (FF t.ba.C t.dq.C):=by
 refine t.rM.F.aJ true D3 (fun vs H Q E h=>?_) (fun ay A outer s H vs Q E hr h=>?_)
 ·obtain⟨a,x,p,c,rfl,_⟩:=h;rfl
 ·obtain⟨a,x,p,c,rfl,ha,hc,hz,g⟩:=h;obtain⟨ta,ea⟩:=t.yL;obtain⟨tz,ez⟩:=t.yM;obtain⟨t0,e0⟩:=t.yJ;obtain⟨t9,e9⟩:=t.yK;obtain⟨tq,eq⟩:=t.rY;obtain⟨td,ed⟩:=t.Hx;obtain⟨ts,es,ks⟩:=t.IZ;have bB:az 6 _:=hr.mono (by decide);have dN:az 4 _:=hr.mono (by decide);have cP:az 2 _:=hr.mono (by decide);refine⟨_,ak (aT 2 D3.nd (cf gY (pv 0) (pv 1) (fun _ _=>rfl)))<|
   ak (a9 (rL gZ gZ (bw (v:= .int 97) rfl ea ⟨_,rfl⟩) (pv 2) (bw (v:= .int 122) rfl ez ⟨_,rfl⟩))
    (ao (aD (aK t.ou (B5 (cs:=cs) t) bB aE.passes (ae (pv 0)<|ae (pv 1)<|ae aZ<|ae (pv 1) ag)))) a_)<|
   ak (a9 (bg dE (pv 2) (bw (v:= .int 36) rfl ed ⟨_,rfl⟩) (bc _))
    (ao (aD (aK t.ou (B5 (cs:=cs) t) bB aE.passes (ae (pv 0)<|ae (pv 1)<|ae aZ<|ae (a0 iI (pv 1) aM) ag)))) a_)<|
   ak (a9 (rL gZ gZ (bw (v:= .int 48) rfl e0 ⟨_,rfl⟩) (pv 2) (bw (v:= .int 57) rfl e9 ⟨_,rfl⟩))
    (ao (aD (aK t.qN (MW (cs:=cs) t) bB aE.passes (ae (pv 0)<|ae (pv 1) ag)))) a_)<|
   ak (a9 (bg dE (pv 2) (bw (v:= .int 34) rfl eq ⟨_,rfl⟩) (bc _))
    (ao (aD (aK t.qO (MX (cs:=cs) t) hr aE.passes (ae (pv 0)<|ae (pv 1) ag)))) a_)<|
   ak (a9 (bg Jk (pv 2) (bw (v:= .ref ts) rfl es rfl) rfl)
    (ao (aD (fO (t.fM.fG rfl) (rK (cs:=cs) t) cP rfl t.ba.m t.fM.b .nil (ax (cs:=cs)) (ae aZ<|ae (HK (bw (v:= .ref ts) rfl es rfl) (pv 2) (fun _ _=>rfl))<|ae (pv 1)<|ae (a0 iI (pv 1) aM) ag)))) a_)<|
   ao (jg aE rfl (t.gL.d3 rfl) (uw (cs:=cs) t) dN rfl t.dq.m t.gL.b (ax (cs:=cs)) (ae (pv 1) ag)),?_⟩
  have hp:p<x.length:=(List.getElem?_eq_some_iff.mp hc).1;refine⟨_,rfl,_,rfl,a,_,_,_,rfl,rfl,bW ha,at_of (j:=p) rfl (e_ hc),?_⟩;dsimp only [d6,de,Ends.d9];unfold lI at g;refine aS (Vabldl.small c) (fun R hR=>?_) (fun z=>?_) fun z=>?_
  ·refine⟨_,rfl,97,c,rfl,rfl,_,rfl,bS (fun q1=>⟨c,122,rfl,rfl,_,rfl,?_⟩) fun q1=>⟨_,rfl,?_⟩⟩
   ·unfold Vabldl.small at hR;rw[q1] at hR;exact hR
   ·unfold Vabldl.small at hR;rw[q1] at hR;exact hR
  ·rw[z,if_pos rfl] at g;have e1:runEnd Vabldl.small x p≠p:=fun e=>by
    have:=uI (f:=Vabldl.small) (t:=x) (i:=p) (c:=c) (by rw[e];exact hc);rw[z] at this;cases this
   refine⟨_,rfl,_,rfl,_,rfl,a,x,p,1,p,rfl,.inl rfl,ha,Nat.le_of_lt hp,?_⟩
   by_cases h16:16<runEnd Vabldl.small x p-p
   ·rw[if_pos h16] at g;rw[if_pos (.inr h16)];exact g
   ·rw[if_neg h16] at g;rw[if_neg (by intro h;rcases h with h |h<;>contradiction)];exact g
  rw[z,if_neg Bool.false_ne_true] at g;refine aS (decide (c=36)) (fun R hR=>⟨_,rfl,c,36,rfl,rfl,_,rfl,hR⟩) (fun z2=>?_) fun z2=>?_
  ·have z2:=of_decide_eq_true z2;subst z2;rw[if_neg (by decide),if_pos rfl] at g;refine⟨_,rfl,_,rfl,_,rfl,p,1,rfl,rfl,a,x,p,4,p+1,rfl,.inr rfl,ha,hp,?_⟩
   by_cases h16:runEnd Vabldl.small x (p+1)=p+1∨16<runEnd Vabldl.small x (p+1)-(p+1)
   ·rw[if_pos h16] at g;rw[if_pos h16];exact g
   ·rw[if_neg h16] at g;rw[if_neg h16];exact g
  have z2:=of_decide_eq_false z2;refine aS (Vabldl.digit c) (fun R hR=>?_) (fun z3=>?_) fun z3=>?_
  ·refine⟨_,rfl,48,c,rfl,rfl,_,rfl,bS (fun q1=>⟨c,57,rfl,rfl,_,rfl,?_⟩) fun q1=>⟨_,rfl,?_⟩⟩
   ·unfold Vabldl.digit at hR;rw[q1] at hR;exact hR
   ·unfold Vabldl.digit at hR;rw[q1] at hR;exact hR
  ·rw[z3,if_pos rfl] at g;refine⟨_,rfl,_,rfl,a,x,p,c,rfl,ha,hc,z3,hz,?_⟩
   by_cases h16:2<runEnd Vabldl.digit x p-p∨(c=48/\1<runEnd Vabldl.digit x p-p)
   ·rw[if_pos h16] at g;rw[if_pos h16];exact g
   ·rw[if_neg h16] at g;rw[if_neg h16];exact g
  rw[z3,if_neg Bool.false_ne_true,if_neg z2] at g;refine aS (decide (c=34)) (fun R hR=>⟨_,rfl,c,34,rfl,rfl,_,rfl,hR⟩) (fun z4=>?_) fun z4=>?_
  ·have z4:=of_decide_eq_true z4;rw[if_pos z4] at g;refine⟨_,rfl,_,rfl,a,x,p,rfl,ha,hp,hz,?_⟩
   by_cases h16:runEnd Vabldl.nameByte x (p+1)=p+1∨40<runEnd Vabldl.nameByte x (p+1)-(p+1)∨x[runEnd Vabldl.nameByte x (p+1)]? ≠some 34
   ·rw[if_pos h16] at g;rw[if_pos h16];exact g
   ·rw[if_neg h16] at g;rw[if_neg h16];exact g
  rw[if_neg (of_decide_eq_false z4)] at g;refine aS (Vabldl.signs.contains c) (fun R hR=>⟨_,rfl,ts,_,.inl (c:Int),rfl,rfl,ks,_,rfl,by rw[Rl];exact hR⟩) (fun z5=>?_) fun z5=>?_
  ·rw[z5,if_pos rfl] at g;refine⟨_,rfl,ts,_,.inl (c:Int),_,rfl,rfl,ks,signs_at z5,_,rfl,_,rfl,p,1,rfl,rfl,fun b db hb bC bo=>?_⟩;refine jq (us:=[_,_,_,_]) rfl hb bC bo fun H3 b' gz aY cy _ _ e2=>?_;exact g H3 b' gz _ aY cy rfl e2
  ·rw[z5,if_neg Bool.false_ne_true] at g;exact⟨_,rfl,(by show 1<=sizeLine;decide),fun d hd=>d4 t.dq [(p:Int)] rfl hd g⟩
theorem zj{C:Addr}{n:Nat}{F:List V->List (Str×V)}{H1:Hp}{x dx:Addr}{us:List V}{R:Hp->Prop}{E:XK}(hn:us.length=n)(hx:H1 x=none)(hd:H1 dx=none)(bo:dx≠x)(h: ∀H',ai H1 H'->(∀b,H1 b=none->b≠x->b≠dx->H' b=none)->H' x=some (.ins C dx (F us))->R H'):
  iR C n F (.ref x::(us++[])) (upd (upd H1 dx (.own x)) x (.ins C dx [])) (fun v H2=>v= .aN/\R H2) E:=by
 rw[List.append_nil];refine⟨x,dx,us,rfl,hn,au,fun H' h1 h3 h2=>⟨rfl,h H' (fun b o e=>?_) (fun b e n1 n2=>h3 b ?_) h2⟩⟩
 ·exact h1 b o (by rw[aj (aR e hx),aj (aR e hd)];exact e) (aR e hx)
 ·rw[aj n1,aj n2];exact e
inductive lA(C:Addr)(H:Hp)(v:V)(tk:VU):Prop
 |mk(h:tk.kind<=5)(x dx:Addr)(val:V)(e:Nat):v= .ref x->H x=some (.ins C dx (zy (.str (eP tk.kind)) val (.int tk.place) (.int e)))->m6 H tk.kind tk.text val->lA C H v tk
def dh(H H':Hp):Prop:=(∀b C dx fs,H b=some (.ins C dx fs)->H' b=some (.ins C dx fs))/\ ∀b xs,H b=some (.tup xs)->H' b=some (.tup xs)
theorem dh.of{H H':Hp}(s:ai H H'):dh H H':=⟨fun b C dx fs e=>s _ _ e,fun b xs e=>s _ _ e⟩
theorem dh.lst{H:Hp}{l:Addr}{xs ys:List V}(h:H l=some (.lst xs)):dh H (upd H l (.lst ys)):=⟨fun b C dx fs e=>by
  rw[aj (fun q=>by rw[q,h] at e;cases e)];exact e,fun b zs e=>by
  rw[aj (fun q=>by rw[q,h] at e;cases e)];exact e⟩
theorem m6.hX{H H':Hp}{k:Nat}{w:VT}{v:V}(h:m6 H k w v)(s:dh H H'):m6 H' k w v:=by
 match k,h with
 |0,h=>exact h
 |1,h=>exact h
 |2,h=>exact h
 |3,⟨p,e,h,z⟩=>exact⟨p,e,s.2 _ _ h,z⟩
 |4,h=>exact h
 |n+5,h=>exact h
theorem lA.hX{C:Addr}{H H':Hp}{v:V}{tk:VU}(h:lA C H v tk)(s:dh H H'):lA C H' v tk:=by
 obtain⟨h0,x,dx,val,e,h1,h2,h3⟩:=h;exact⟨h0,x,dx,val,e,h1,s.1 _ _ _ _ h2,h3.hX s⟩
def hW(C:Addr)(H:Hp)(vs:List V)(toks:List VU):Prop:=vs.length=toks.length/\ ∀(i:Nat) tk,toks[i]? =some tk-> ∃v,vs[i]? =some v/\lA C H v tk
theorem hW.hX{C:Addr}{H H':Hp}{vs:List V}{toks:List VU}(h:hW C H vs toks)(s:dh H H'):hW C H' vs toks:=⟨h.1,fun i tk e=>let⟨v,e1,e2⟩:=h.2 i tk e;⟨v,e1,e2.hX s⟩⟩
theorem hW.snoc{C:Addr}{H:Hp}{vs:List V}{toks:List VU}{v:V}{tk:VU}(h:hW C H vs toks)(g:lA C H v tk):hW C H (vs++[v]) (toks++[tk]):=by
 refine⟨by rw[List.length_append,List.length_append,h.1];rfl,fun i t' e=>?_⟩;rw[List.getElem?_append] at e
 by_cases hi:i<toks.length
 ·rw[if_pos hi] at e;obtain⟨v',e1,e2⟩:=h.2 i t' e;exact⟨v',by rw[List.getElem?_append,if_pos (by rw[h.1];exact hi)];exact e1,e2⟩
 ·rw[if_neg hi] at e;have p8:i-toks.length=0:=by
   have:=(List.getElem?_eq_some_iff.mp e).1;have:i-toks.length<1:=this;omega
  rw[p8] at e;cases e;exact⟨v,by rw[List.getElem?_append,if_neg (by rw[h.1];exact hi),h.1,p8];rfl,g⟩
def glue(d:List VU)(r:Except Vabldl.Fault (List VU)):Except Vabldl.Fault (List VU):=match r with
 | .ok l=> .ok (d++l)
 | .error e=> .error e
theorem Qq(d:List VU)(k:Nat)(w:VT)(p:Nat)(r:Except Vabldl.Fault (List VU)):glue d (Vabldl.put k w p r)=glue (d++[{kind:=k,text:=w,place:=p}]) r:=by
 cases r with
 |error e=>rfl
 |ok l=>show Except.ok _=Except.ok _;rw[List.append_assoc];rfl
theorem G6{t:VT}{p c k e:Nat}{w:VT}(hc:t[p]? =some c)(h:lI t p c=some (k,w,e)):p<e/\e<=t.length/\k<=5:=by
 have hp:p<t.length:=(List.getElem?_eq_some_iff.mp hc).1;have run: ∀f:Nat->Bool,f c=true->p<runEnd f t p:=fun f hf=>by
  rcases Nat.lt_or_eq_of_le (k_ f t p) with q |q
  ·exact q
  ·have:=uI (f:=f) (t:=t) (i:=p) (c:=c) (by rw[<-q];exact hc);rw[hf] at this;cases this
 have le: ∀f,runEnd f t p<=t.length:=fun f=>rC f (Nat.le_of_lt hp);have Lm: ∀f,p+1<=runEnd f t (p+1):=fun f=>k_ f t (p+1);have XM: ∀f,runEnd f t (p+1)<=t.length:=fun f=>rC f hp;unfold lI at h
 split at h
 ·rename_i h1
  split at h
  ·cases h
  ·cases h;exact⟨run _ h1,le _,by decide⟩
 ·split at h
  ·rename_i h1
   split at h
   ·cases h
   ·cases h;exact⟨run _ h1,le _,by decide⟩
  ·split at h
   ·split at h
    ·cases h
    ·cases h;exact⟨Lm _,XM _,by decide⟩
   ·split at h
    ·split at h
     ·cases h
     ·rename_i hn
      cases h;have a1:=Lm Vabldl.nameByte;have a2:t[runEnd Vabldl.nameByte t (p+1)]? =some 34:=Decidable.byContradiction fun q=>hn (.inr (.inr q));have a3:=(List.getElem?_eq_some_iff.mp a2).1;omega
    ·split at h
     ·cases h;omega
     ·cases h
theorem Qg(c:Nat):i4 (.int (c:Int)) [.int 32,.int 9,.int 10,.int 13]=Vabldl.blank c:=by
 show((32:Int)==(c:Int) || ((9:Int)==(c:Int) || ((10:Int)==(c:Int) || ((13:Int)==(c:Int) || false))))=_;unfold Vabldl.blank;have e: ∀k:Nat,((k:Int)==(c:Int))=(c==k):=fun k=>by
  rw[Bool.eq_iff_iff,beq_iff_eq,beq_iff_eq];omega
 have e1:=e 32;have e2:=e 9;have e3:=e 10;have e4:=e 13;rw[Bool.or_false];rw[show((32:Int)==(c:Int))=(c==32) from e1,show((9:Int)==(c:Int))=(c==9) from e2,show((10:Int)==(c:Int))=(c==10) from e3,show((13:Int)==(c:Int))=(c==13) from e4]
inductive Kd(C F:Addr)(vs:List V)(H:Hp)(Q:VK)(E:XK):Prop
 |mk(a:Addr)(t:VT):vs=[.ref a]->H a=some (.tup (nums t))->t.length<=1024->(∀p,Vabldl.cut t= .error {kind:=2,place:=p}->Throws H F (dS (-12) p) E)->(∀toks,Vabldl.cut t= .ok toks-> ∀H' l us,ai H H'->H l=none->H' l=some (.lst us)->hW C H' us toks->toks.length<=t.length+1->(∃tk,toks[toks.length-1]? =some tk/\tk.kind=0)->0<toks.length->Q (.ref l) H')->Kd C F vs H Q E
theorem Nr(t:Tx K mg w):aB P w K mg base (aC P w cs) 9 t.qW.f t.qW.fd ["text"] (Kd t.ba.C t.dq.C):=by
 refine t.qW.F.aJ true oB (fun vs H Q E h=>?_) (fun ay A outer s H vs Q E hr h=>?_)
 ·obtain⟨a,x,rfl,_⟩:=h;rfl
 ·obtain⟨a,x,rfl,ha,hz,gE,gQ⟩:=h;obtain⟨ts,es,ks⟩:=t.Hw;have cP:az 2 _:=hr.mono (by decide);refine⟨_,ak (aT 1 oB.nd (dw ag))<|
   ak (aT 2 oB.nd aM)<|
   ak (jQ eu (bg pE (pv 2) (bV dH rfl t.dy rfl (ae (pv 0) ag)) (bc _))
    (ao (a9 (bg yr (cf gY (pv 0) (pv 2) (fun _ _=>rfl)) (bw (v:= .ref ts) rfl es rfl) rfl)
     (ao (vM (i:=2) oB.nd rfl (Or.inl rfl) aM ll))
     (ak (aT 3 oB.nd (aK t.rM (Ov (cs:=cs) t) hr aE.passes (ae (pv 0)<|ae (pv 2) ag)))<|
      ak (bA (eQ PySem.F.plainAttrs_list PySem.F.slot_list_append PySem.F.type_list_append iD (pv 1) (ae (pv 3) ag)))<|
      ao (aT 2 oB.nd (aQ (pv 3) rfl))))))<|
   ak (bA (eQ PySem.F.plainAttrs_list PySem.F.slot_list_append PySem.F.type_list_append iD (pv 1) (ae (fO (t.fM.fG rfl) (rK (cs:=cs) t) cP rfl t.ba.m t.fM.b .nil (ax (cs:=cs)) (ae aZ<|ae r_<|ae (pv 2)<|ae (pv 2) ag)) ag)))<|
   ao (aD (pv 1)),?_⟩
  refine⟨Nat.zero_le _,fun l hl=>?_⟩;have tE:a≠l:=aR ha hl;have size: ∀n,n<=1024->n<sizeLine:=fun n h=>Nat.lt_of_le_of_lt h (by decide);refine⟨fun kk σ H'=> ∃p us done v3,σ=[some (.ref a),some (.ref l),some (.int (p:Nat)),v3]/\ai H H'/\H' l=some (.lst us)/\hW t.ba.C H' us done/\us.length<=p/\p<=x.length/\Vabldl.cut x=glue done (rest x.length (x.drop p))/\kk=x.length-p,
   ⟨_,0,[],[],none,rfl,ai.new hl,au,⟨rfl,fun i tk e=>by cases e⟩,Nat.le_refl _,Nat.zero_le _,?_,rfl⟩,?_⟩
  ·rw[FV];cases rest x.length (x.drop 0)<;>rfl
  intro kk σ H' hI;refine hide fun _ kG=>?_;obtain⟨p,us,done,v3,rfl,hs,el,hT,Y5,Y4,gq,rfl⟩:=hI;refine kG ?_;refine rP (decide (p<x.length)) (fun R hR=>⟨_,rfl,_,rfl,a,_,rfl,.inr (bW (hs _ _ ha)),p,x.length,rfl,(by rw[a8]),_,rfl,hR⟩) (fun z=>?_) fun z=>?_
  ·have hp:=of_decide_eq_true z;obtain⟨c,hc⟩: ∃c,x[p]? =some c:=⟨_,List.getElem?_eq_getElem hp⟩;refine⟨fun σ' H2=> ∃p' us done v3,σ'=[some (.ref a),some (.ref l),some (.int (p':Nat)),v3]/\ai H H2/\H2 l=some (.lst us)/\hW t.ba.C H2 us done/\us.length<=p'/\p'<=x.length/\Vabldl.cut x=glue done (rest x.length (x.drop p'))/\p<p',?_,?_⟩
   ·intro σ' H2 hI;refine hide fun _ kG=>?_;obtain⟨p',us,done,v3,h1,h2,h3,h4,h5,h6,h7,h8⟩:=hI;refine kG ?_;exact⟨_,by omega,p',us,done,v3,h1,h2,h3,h4,h5,h6,h7,rfl⟩
   refine⟨_,rfl,_,rfl,a,_,_,_,rfl,rfl,bW (hs _ _ ha),at_of (j:=p) rfl (e_ hc),ts,_,rfl,.inr (ks _),rfl,rfl,_,rfl,?_⟩;show if i4 (.int (c:Int)) [.int 32,.int 9,.int 10,.int 13]=true then _ else _
   rw[Qg];refine bS (fun hb=>?_) fun hb=>?_
   ·refine⟨_,rfl,p,1,rfl,rfl,p+1,us,done,v3,rfl,hs,el,hT,by omega,hp,?_,by omega⟩;rw[gq,uL hc,Ep hb]
   ·have Xr:=Gi hc hb;rw[Xr] at gq;refine⟨_,rfl,_,rfl,a,x,p,c,rfl,hs _ _ ha,hc,size _ hz,?_⟩;cases eV:lI x p c with
    |none=>
     rw[eV] at gq;exact(gE p gq).same hs
    |some A6=>
     obtain⟨k,ww,e⟩:=A6;rw[eV] at gq;obtain⟨kD,XS,XT⟩:=G6 hc eV;show rX H' t.ba.C k ww p e _;intro H2 b db val aY YX hv e2;have gq:Vabldl.cut x=glue done (Vabldl.put k ww p (rest x.length (x.drop e))):=gq;rw[Qq] at gq;have lU:=aY _ _ el;refine⟨_,rfl,.inl ⟨rfl,_,aA.of lU⟩,_,rfl,l,_,_,rfl,rfl,lU,size _ (by omega),?_⟩;have pZ:b≠l:=fun q=>by rw[q,lU] at e2;cases e2
     have s3:ai H (upd H2 l (.lst (us++[.ref b]))):=ai.cM (hs.trans aY) hl;refine⟨_,rfl,b,_,_,_,_,rfl,(by rw[aj pZ];exact e2),t.ba.cl,t.ba.nn,rfl,?_⟩;refine⟨e,us++[.ref b],_,_,rfl,s3,au,?_,by rw[List.length_append];show us.length+1<=e;omega,XS,gq,kD⟩;have fm:dh H2 (upd H2 l (.lst (us++[.ref b]))):=dh.lst lU;exact(hW.snoc (hT.hX (dh.of aY)) ⟨XT,b,db,val,e,rfl,e2,hv⟩).hX fm
  ·have LM:p=x.length:=by have:=of_decide_eq_false z;omega
   subst LM;rw[List.drop_eq_nil_of_le (Nat.le_refl _),yS] at gq;have gq:Vabldl.cut x= .ok (done++[{kind:=0,text:=[],place:=x.length}]):=gq;refine⟨_,rfl,.inl ⟨rfl,_,aA.of el⟩,_,rfl,_,rfl,fun b db hb bC bo=>?_⟩;refine zj (us:=[_,_,_,_]) rfl hb bC bo fun H3 aY _ e2=>?_;have wG:=aY _ _ el;refine⟨l,_,_,rfl,rfl,wG,size _ (by omega),?_⟩;refine⟨_,rfl,gQ _ gq _ l _ (ai.cM (hs.trans aY) hl) hl au ?_ ?_ ⟨{kind:=0,text:=[],place:=x.length},?_,rfl⟩ ?_⟩
   ·have fm:dh H3 (upd H3 l (.lst (us++[.ref b]))):=dh.lst wG;exact(hW.snoc (tk:={kind:=0,text:=[],place:=x.length}) (hT.hX (dh.of aY)) ⟨Nat.zero_le _,b,db,.aN,x.length,rfl,e2,rfl⟩).hX fm
   ·rw[List.length_append,<-hT.1];show us.length+1<=_;omega
   ·rw[List.length_append];show(done++_)[done.length]? =_;rw[List.getElem?_append_right (Nat.le_refl _),Nat.sub_self];rfl
   ·rw[List.length_append];exact Nat.succ_pos _
abbrev Qy:=Vabldl.Query
def fI:Nat->Str
 |0=>"+" |1=>"-" |_=>"&"
def cW(H:Hp)(v:V)(w:VT):Prop:= ∃p,v= .ref p/\H p=some (.tup (nums w))/\w.length<=1024
inductive pz(H:Hp)(R:V->Qy->Prop)(v:V)(s:Nat×Qy):Prop
 |mk(T:Addr)(u:V):v= .ref T->H T=some (.tup [.str (fI s.1),u])->s.1<3->R u s.2->pz H R v s
def sumOf(q:Qy)(ss:List (Nat×Qy)):Qy:=ss.foldl (fun a s=> .op s.1 a s.2) q
inductive Sh{K:FG}{mg:Str->Option Value}{w:World}(t:Tx K mg w)(B:Addr->Prop)(H:Hp)(R:V->Qy->Prop):V->Qy->Prop
 |lit {x dx:Addr} {v:V} {w:VT} (b: ¬B x) (e:H x=some (.ins t.cq.C dx (HM v))) (h:cW H v w):Sh t B H R (.ref x) (.lit w)
 |var {x dx:Addr} {n:VT} (b: ¬B x) (e:H x=some (.ins t.b_.C dx (FL (.str (strOf n))))):Sh t B H R (.ref x) (.var n)
 |let_ {x dx:Addr} {n:VT} {va vb:V} {qa qb:Qy} (b: ¬B x) (e:H x=some (.ins t.bF.C dx (we (.str (strOf n)) va vb))) (h1:R va qa) (h2:R vb qb):Sh t B H R (.ref x) (.let_ n qa qb)
 |sum {x dx ls:Addr} {v0:V} {us:List V} {q0:Qy} {ss:List (Nat×Qy)} (b: ¬B x) (e:H x=some (.ins t.bO.C dx (sumF v0 (.ref ls)))) (bl: ¬B ls) (el:H ls=some (.lst us)) (ne:ss≠[]) (h0:R v0 q0) (hs:Paired (pz H R) us ss):Sh t B H R (.ref x) (sumOf q0 ss)
 |all {x dx lt lp:Addr} (b: ¬B x) (e:H x=some (.ins t.aU.C dx (jo (.str "all") (.ref lt) (.ref lp) .aN))) (bp: ¬B lp) (ep:H lp=some (.lst [])):Sh t B H R (.ref x) .all
 |call {x dx lt lp:Addr} {wd:String} {tv pv:List V} {tx:List VT} {qs:List Qy} {bf:Option Nat} (b: ¬B x) (e:H x=some (.ins t.aU.C dx (jo (.str (Str.ofString wd)) (.ref lt) (.ref lp) (iQ bf)))) (hw:wd∈cD)
   (bt: ¬B lt) (et:H lt=some (.lst tv)) (ht:Paired (cW H) tv tx) (bp: ¬B lp) (ep:H lp=some (.lst pv)) (hp:Paired R pv qs) (kD:tx.length=(shapeOf wd).1) (kC:qs.length=(shapeOf wd).2.1+1) (lm: ∀l,bf=some l->l<=99) (i6:(shapeOf wd).2.2=false->bf=none):
   Sh t B H R (.ref x) (Bq.ft wd tx qs bf)
def aV{K:FG}{mg:Str->Option Value}{w:World}(t:Tx K mg w)(B:Addr->Prop)(H:Hp):Nat->V->Qy->Prop
 |0=>fun _ _=>False
 |d+1=>Sh t B H (aV t B H d)
section
variable{K:FG}{mg:Str->Option Value}{w:World}{t:Tx K mg w}{B B':Addr->Prop}{H H':Hp}{R R':V->Qy->Prop}{v:V}{q:Qy}
theorem Paired.c5{α β:Type}{P Q:α->β->Prop}(h: ∀a b,P a b->Q a b){xs:List α}{ys:List β}(p:Paired P xs ys):Paired Q xs ys:=by
 induction p with
 |nil=>exact .nil
 |cons a b ih=>exact .cons (h _ _ a) ih
theorem cW.keep{w:VT}(h:cW H v w)(hT: ∀b xs,H b=some (.tup xs)->H' b=some (.tup xs)):cW H' v w:=let⟨p,e,g,z⟩:=h;⟨p,e,hT _ _ g,z⟩
theorem Sh.keep(h:Sh t B H R v q)(hB: ∀b o,H b=some o-> ¬B b-> ¬B' b/\H' b=some o)(hT: ∀b xs,H b=some (.tup xs)->H' b=some (.tup xs))(hR: ∀v q,R v q->R' v q):Sh t B' H' R' v q:=by
 cases h with
 |lit b e h=>exact .lit (hB _ _ e b).1 (hB _ _ e b).2 (h.keep hT)
 |var b e=>exact .var (hB _ _ e b).1 (hB _ _ e b).2
 |let_ b e h1 h2=>exact .let_ (hB _ _ e b).1 (hB _ _ e b).2 (hR _ _ h1) (hR _ _ h2)
 |sum b e bl el ne h0 hs=>exact .sum (hB _ _ e b).1 (hB _ _ e b).2 (hB _ _ el bl).1 (hB _ _ el bl).2 ne (hR _ _ h0) (Paired.c5 (fun v s ⟨T,u,e1,e2,e3,e4⟩=>⟨T,u,e1,hT _ _ e2,e3,hR _ _ e4⟩) hs)
 |all b e bp ep=>exact .all (hB _ _ e b).1 (hB _ _ e b).2 (hB _ _ ep bp).1 (hB _ _ ep bp).2
 |call b e hw bt et ht bp ep hp kD kC lm i6=>exact .call (hB _ _ e b).1 (hB _ _ e b).2 hw (hB _ _ et bt).1 (hB _ _ et bt).2 (Paired.c5 (fun v w g=>g.keep hT) ht) (hB _ _ ep bp).1 (hB _ _ ep bp).2 (Paired.c5 (fun v q g=>hR _ _ g) hp) kD kC lm i6
theorem aV.keep(hB: ∀b o,H b=some o-> ¬B b-> ¬B' b/\H' b=some o)(hT: ∀b xs,H b=some (.tup xs)->H' b=some (.tup xs)): ∀(d:Nat)(v:V)(q:Qy),aV t B H d v q->aV t B' H' d v q
 |0,_,_,h=>h.elim
 |d+1,v,q,h=>Sh.keep h hB hT (aV.keep hB hT d)
theorem aV.up: ∀(d:Nat)(v:V)(q:Qy),aV t B H d v q->aV t B H (d+1) v q
 |0,_,_,h=>h.elim
 |d+1,v,q,h=>Sh.keep h (fun b o e n=>⟨n,e⟩) (fun b xs e=>e) (aV.up d)
theorem aV.le{d d':Nat}(h:aV t B H d v q)(l:d<=d'):aV t B H d' v q:=by
 induction l with
 |refl=>exact h
 |step _ ih=>exact aV.up _ _ _ ih
theorem aV.same{d:Nat}(h:aV t B H d v q)(s:ai H H'):aV t B H' d v q:=aV.keep (fun b o e n=>⟨n,s _ _ e⟩) (fun b xs e=>s _ _ e) d v q h
theorem aV.weak{d:Nat}(h:aV t B H d v q)(s: ∀b,B' b->B b):aV t B' H d v q:=aV.keep (fun b o e n=>⟨fun z=>n (s b z),e⟩) (fun b xs e=>e) d v q h
end
def aH(r:Addr)(H H':Hp):Prop:= ∀b o,H b=some o->b≠r->H' b=some o
theorem aH.trans{r:Addr}{H H1 H2:Hp}(a:aH r H H1)(b:aH r H1 H2):aH r H H2:=fun c o e n=>b c o (a c o e n) n
theorem aH.of{r:Addr}{H H':Hp}(s:ai H H'):aH r H H':=fun b o e _=>s b o e
theorem aH.refl{r:Addr}{H:Hp}:aH r H H:=fun b o e _=>e
def qt(l:Addr)(j:Nat):List (Str×V):=[("tokens",.ref l),("place",.int (j:Int))]
theorem Jo(l:Addr)(j k:Nat):bD "place" (.int (k:Int)) (qt l j)=qt l k:=by
 show(if("tokens":Str)="place" then _ else _)=_;rw[if_neg (by decide +kernel)];show _::(if("place":Str)="place" then _ else _)=_;rw[if_pos rfl];rfl
theorem yH: ∀a,a<=5-> ∀b,b<=5->(eP a=eP b↔a=b):=by decide +kernel
structure bh(t:Tx K mg w)(r dr l:Addr)(us:List V)(toks:List VU)(H:Hp)(j:Nat):Prop where
 obj:H r=some (.ins t.aP.C dr (qt l j))
 lst:H l=some (.lst us)
 tok:hW t.ba.C H us toks
 lt:j<toks.length
 fin: ∃tk,toks[toks.length-1]? =some tk/\tk.kind=0
 num: ∀(i:Nat) tk,toks[i]? =some tk->tk.kind=2->Vabldl.valueOf tk.text<=99
 sz:toks.length<=1025
theorem bh.keep{t:Tx K mg w}{r dr l:Addr}{us:List V}{toks:List VU}{H H':Hp}{j j':Nat}(h:bh t r dr l us toks H j)(k:aH r H H')(o:H' r=some (.ins t.aP.C dr (qt l j')))(lt:j'<toks.length):bh t r dr l us toks H' j':=by
 have jC:l≠r:=fun e=>by have:=h.lst;rw[e,h.obj] at this;cases this
 refine⟨o,k _ _ h.lst jC,⟨h.tok.1,fun i tk e=>?_⟩,lt,h.fin,h.num,h.sz⟩;obtain⟨v,e1,h0,x,dx,val,e,e2,e3,e4⟩:=h.tok.2 i tk e;refine⟨v,e1,h0,x,dx,val,e,e2,k _ _ e3 fun q=>?_,?_⟩
 ·rw[q,h.obj] at e3;have:=(HO.ins.inj (Option.some.inj e3)).2.2;exact absurd (congrArg List.length this) (by show ¬(2=4);decide)
 ·match hk:tk.kind,e4 with
  |0,e4=>exact e4
  |1,e4=>exact e4
  |2,e4=>exact e4
  |3,⟨p,e5,e6,z⟩=>exact⟨p,e5,k _ _ e6 (fun q=>by rw[q,h.obj] at e6;cases e6),z⟩
  |4,e4=>exact e4
  |n+5,e4=>exact e4
theorem bh.same{t:Tx K mg w}{r dr l:Addr}{us:List V}{toks:List VU}{H H':Hp}{j:Nat}(h:bh t r dr l us toks H j)(s:ai H H'):bh t r dr l us toks H' j:=h.keep (aH.of s) (s _ _ h.obj) h.lt
theorem bh.here{t:Tx K mg w}{r dr l:Addr}{us:List V}{toks:List VU}{H:Hp}{j:Nat}(h:bh t r dr l us toks H j): ∃tk v,toks[j]? =some tk/\us[j]? =some v/\lA t.ba.C H v tk:=by
 obtain⟨tk,e⟩: ∃tk,toks[j]? =some tk:=⟨_,List.getElem?_eq_getElem h.lt⟩;obtain⟨v,e1,e2⟩:=h.tok.2 j tk e;exact⟨tk,v,e,e1,e2⟩
theorem bh.more{t:Tx K mg w}{r dr l:Addr}{us:List V}{toks:List VU}{H:Hp}{j:Nat}{tk:VU}(h:bh t r dr l us toks H j)(e:toks[j]? =some tk)(hk:tk.kind≠0):j+1<toks.length:=by
 obtain⟨z,e1,e2⟩:=h.fin;have lt:=h.lt;rcases Nat.lt_or_eq_of_le (show j+1<=toks.length from lt) with q |q
 ·exact q
 ·rw[show toks.length-1=j by omega,e] at e1;cases e1;exact absurd e2 hk
def lK(t:Tx K mg w):Nat->Addr
 |1=>t.iB.C |2=>t.dq.C |3=>t.eN.C |4=>t.iA.C |_=>t.fK.C
def da(t:Tx K mg w)(r:Addr)(H:Hp)(e:Vabldl.Fault)(E:XK):Prop:= ∀(H':Hp)(d:Addr),aH r H H'->H d=none->H' d=some (XD d (dS (-10-(e.kind:Int)) (e.place:Int)))->E (.ref (lK t e.kind)) (some d) H'
theorem aH.free{r d:Addr}{H H1:Hp}{o:HO}(k:aH r H H1)(hr:H1 r=some o)(h:H1 d=none):H d=none:=by
 cases e:H d with
 |none=>rfl
 |some u=>
  have n:d≠r:=fun q=>by rw[q,hr] at h;cases h
  rw[k _ _ e n] at h;cases h
theorem da.keep{t:Tx K mg w}{r:Addr}{H H1:Hp}{e:Vabldl.Fault}{E:XK}{o:HO}(h:da t r H e E)(k:aH r H H1)(hr:H1 r=some o):da t r H1 e E:=fun H' d k2 hd ed=>h H' d (k.trans k2) (k.free hr hd) ed
theorem da.plain{t:Tx K mg w}{r:Addr}{H:Hp}{e:Vabldl.Fault}{E:XK}(h:da t r H e E):Throws H (lK t e.kind) (dS (-10-(e.kind:Int)) (e.place:Int)) E:=fun H' d s hd ed=>h H' d (aH.of s) hd ed
inductive Ft(t:Tx K mg w)(vs:List V)(H:Hp)(Q:VK)(E:XK):Prop
 |mk(r dr l:Addr)(us:List V)(toks:List VU)(j:Nat):vs=[.ref r]->bh t r dr l us toks H j->(∀v tk,toks[j]? =some tk->lA t.ba.C H v tk->Q v H)->Ft t vs H Q E
inductive GS(t:Tx K mg w)(vs:List V)(H:Hp)(Q:VK)(E:XK):Prop
 |mk(r dr l:Addr)(us:List V)(toks:List VU)(j k:Nat)(s:Str):vs=[.ref r,.str (eP k),.str s]->(k=1∨k=5)->bh t r dr l us toks H j->(∀tk,toks[j]? =some tk->Q (.bl (decide (tk.kind=k/\strOf tk.text=s))) H)->GS t vs H Q E
inductive JB(t:Tx K mg w)(vs:List V)(H:Hp)(Q:VK)(E:XK):Prop
 |mk(r dr l:Addr)(us:List V)(toks:List VU)(j k:Nat):vs=[.ref r,.str (eP k)]->k<=5->k≠0->bh t r dr l us toks H j->(∀tk,toks[j]? =some tk->
 if tk.kind=k then ∀H' v,aH r H H'->(∀b,H b=none->H' b=none)->bh t r dr l us toks H' (j+1)->m6 H' k tk.text v->Q v H' else da t r H {kind:=3,place:=tk.place} E)->JB t vs H Q E
inductive Fu(t:Tx K mg w)(vs:List V)(H:Hp)(Q:VK)(E:XK):Prop
 |mk(r dr l:Addr)(us:List V)(toks:List VU)(j k:Nat)(s:Str):vs=[.ref r,.str (eP k),.str s]->(k=1∨k=5)->bh t r dr l us toks H j->(∀tk,toks[j]? =some tk->
 if tk.kind=k/\strOf tk.text=s then ∀H',aH r H H'->(∀b,H b=none->H' b=none)->bh t r dr l us toks H' (j+1)->Q .aN H' else da t r H {kind:=3,place:=tk.place} E)->Fu t vs H Q E
theorem je(t:Tx K mg w):aB P w K mg base (aC P w cs) 5 t.c9.f t.c9.fd ["self"] (Ft t):=by
 refine t.c9.F.aJ true MP (fun vs H Q E h=>?_) (fun ay A outer s H vs Q E hr h=>?_)
 ·obtain⟨r,dr,l,us,toks,j,rfl,_⟩:=h;rfl
 ·obtain⟨r,dr,l,us,toks,j,rfl,R,k⟩:=h;refine⟨_,ao (aD (cf d5 (aQ (pv 0) rfl) (aQ (pv 0) rfl) (fun _ _=>rfl))),?_⟩;obtain⟨tk,v,e1,e2,e3⟩:=R.here;refine⟨_,rfl,r,_,_,_,_,rfl,R.obj,t.aP.cl,t.aP.nn,rfl,_,rfl,r,_,_,_,_,rfl,R.obj,t.aP.cl,t.aP.nn,rfl,l,us,_,_,rfl,rfl,aA.of R.lst,at_of (j:=j) rfl e2,?_⟩;exact k v tk e1 e3
theorem rm(t:Tx K mg w):aB P w K mg base (aC P w cs) 6 t.fL.f t.fL.fd ["self","form","value"] (GS t):=by
 refine t.fL.F.aJ true Cr (fun vs H Q E h=>?_) (fun ay A outer s H vs Q E hr h=>?_)
 ·obtain⟨r,dr,l,us,toks,j,k,s,rfl,_⟩:=h;rfl
 ·obtain⟨r,dr,l,us,toks,j,k,s,rfl,hk,R,g⟩:=h;refine⟨_,ak (aT 3 Cr.nd (cj (pv 0) t.aP.cl t.c9.me (je (cs:=cs) t) hr t.c9.b .nil (ax (cs:=cs))))<|
   ao (aD (vK (ji dP (aQ (pv 3) rfl) (pv 1) (bc _)) (vL (ji dP (aQ (pv 3) rfl) (pv 2) (bc _))))),?_⟩
  refine⟨_,rfl,r,_,_,rfl,R.obj,rfl,r,dr,l,us,toks,j,rfl,R,fun v tk e1 e3=>?_⟩;have g:=g tk e1;obtain⟨h0,x,dx,val,e,rfl,e4,e5⟩:=e3;refine⟨_,rfl,x,_,_,_,_,rfl,e4,t.ba.cl,t.ba.nn,rfl,_,rfl,rfl,_,rfl,bS (fun q=>?_) fun q=>?_⟩
  ·have q:=of_decide_eq_true q;have qc:tk.kind=k:=(yH _ h0 k (by rcases hk with rfl |rfl<;>decide)).mp (V.str.inj q);have ev:val= .str (strOf tk.text):=by
    rw[qc] at e5;rcases hk with rfl |rfl<;>exact e5
   subst ev;refine⟨_,rfl,x,_,_,_,_,rfl,e4,t.ba.cl,t.ba.nn,rfl,_,rfl,rfl,?_⟩;have:decide (V.str (strOf tk.text)=V.str s)=decide (tk.kind=k/\strOf tk.text=s):=decide_eq_decide.mpr ⟨fun h=>⟨qc,V.str.inj h⟩,fun h=>by rw[h.2]⟩;rw[this];exact g
  ·have q:=of_decide_eq_false q;rw[decide_eq_false (fun h=>q (by rw[h.1]))] at g;exact g
theorem jS(t:Tx K mg w):aB P w K mg base (aC P w cs) 6 t.dD.f t.dD.fd ["self","form"] (JB t):=by
 refine t.dD.F.aJ true CP (fun vs H Q E h=>?_) (fun ay A outer s H vs Q E hr h=>?_)
 ·obtain⟨r,dr,l,us,toks,j,k,rfl,_⟩:=h;rfl
 ·obtain⟨r,dr,l,us,toks,j,k,rfl,AM,wR,R,g⟩:=h;have dN:az 4 _:=hr.mono (by decide);refine⟨_,ak (aT 2 CP.nd (cj (pv 0) t.aP.cl t.c9.me (je (cs:=cs) t) hr t.c9.b .nil (ax (cs:=cs))))<|
   ak (a9 (bg zJ (aQ (pv 2) rfl) (pv 1) (bc _))
    (ao (jg aE rfl (t.gK.d3 rfl) (uv (cs:=cs) t) dN rfl t.eN.m t.gK.b (ax (cs:=cs)) (ae (aQ (pv 2) rfl) ag))) a_)<|
   ak (u7 (pv 0) aM ll)<|
   ao (aD (aQ (pv 2) rfl)),?_⟩
  refine⟨_,rfl,r,_,_,rfl,R.obj,rfl,r,dr,l,us,toks,j,rfl,R,fun v tk e1 e3=>?_⟩;have g:=g tk e1;obtain⟨h0,x,dx,val,e,rfl,e4,e5⟩:=e3;have XA:x≠r:=fun q=>by
   rw[q,R.obj] at e4;have:=(HO.ins.inj (Option.some.inj e4)).2.2;exact absurd (congrArg List.length this) (by show ¬(2=4);decide)
  dsimp only [d6,de,Ends.d9];refine aS (decide (tk.kind≠k)) (fun Rb hR=>?_) (fun z=>?_) fun z=>?_
  ·refine⟨_,rfl,x,_,_,_,_,rfl,e4,t.ba.cl,t.ba.nn,rfl,_,rfl,rfl,_,rfl,?_⟩;have:(!decide (V.str (eP tk.kind)=V.str (eP k)))=decide (tk.kind≠k):=by
    rw[<-decide_not];exact decide_eq_decide.mpr ⟨fun h e=>h (by rw[e]),fun h e=>h ((yH _ h0 k AM).mp (V.str.inj e))⟩
   rw[this];exact hR
  ·rw[if_neg (of_decide_eq_true z)] at g;refine⟨_,rfl,x,_,_,_,_,rfl,e4,t.ba.cl,t.ba.nn,rfl,(by show 1<=sizeLine;decide),fun d hd=>d4 t.eN [(tk.place:Int)] rfl hd g.plain⟩
  ·have hk:tk.kind=k:=by have:=of_decide_eq_false z;exact Decidable.byContradiction this
   rw[if_pos hk] at g;refine⟨_,rfl,r,_,_,_,_,rfl,R.obj,t.aP.cl,t.aP.nn,rfl,j,1,rfl,rfl,dr,_,R.obj,(by show 2<1000;decide),?_⟩;rw[Jo];refine⟨_,rfl,x,_,_,_,_,rfl,(by rw[aj XA];exact e4),t.ba.cl,t.ba.nn,rfl,?_⟩;have kp:aH r H (upd H r (.ins t.aP.C dr (qt l (j+1)))):=fun b o e n=>by rw[aj n];exact e
   refine g _ _ kp (fun b e=>by rw[aj (fun q=>by rw[q,R.obj] at e;cases e)];exact e) (R.keep kp au (R.more e1 (by rw[hk];exact wR))) ?_;rw[hk] at e5
   match k,e5 with
   |0,e5=>exact e5
   |1,e5=>exact e5
   |2,e5=>exact e5
   |3,⟨p,q1,q2,z⟩=>exact⟨p,q1,by rw[aj (fun q=>by rw[q,R.obj] at q2;cases q2)];exact q2,z⟩
   |4,e5=>exact e5
   |n+5,e5=>exact e5
theorem jL(t:Tx K mg w):aB P w K mg base (aC P w cs) 7 t.dA.f t.dA.fd ["self","form","value"] (Fu t):=by
 refine t.dA.F.aJ true Mo (fun vs H Q E h=>?_) (fun ay A outer s H vs Q E hr h=>?_)
 ·obtain⟨r,dr,l,us,toks,j,k,s,rfl,_⟩:=h;rfl
 ·obtain⟨r,dr,l,us,toks,j,k,s,rfl,hk,R,g⟩:=h;have bj:az 5 _:=hr.mono (by decide);have dN:az 4 _:=hr.mono (by decide);refine⟨_,ak (a9 (lz (c0 (bz (pv 0) t.aP.cl t.fL.me (rm (cs:=cs) t) hr t.fL.b .nil (ax (cs:=cs)) (ae (pv 1)<|ae (pv 2) ag))))
    (ao (jg aE rfl (t.gK.d3 rfl) (uv (cs:=cs) t) dN rfl t.eN.m t.gK.b (ax (cs:=cs)) (ae (aQ (cj (pv 0) t.aP.cl t.c9.me (je (cs:=cs) t) bj t.c9.b .nil (ax (cs:=cs))) rfl) ag))) a_)<|
   ao (u7 (pv 0) aM ll),?_⟩
  obtain⟨tk,v,e1,e2,e3⟩:=R.here;have g:=g tk e1;refine aS (!decide (tk.kind=k/\strOf tk.text=s)) (fun Rb hR=>?_) (fun z=>?_) fun z=>?_
  ·refine⟨_,rfl,r,_,_,rfl,R.obj,rfl,_,rfl,_,rfl,r,dr,l,us,toks,j,k,s,rfl,hk,R,fun f9 cE=>⟨_,rfl,?_⟩⟩;rw[e1] at cE;cases cE;exact hR
  ·have z: ¬(tk.kind=k/\strOf tk.text=s):=by rw[Bool.not_eq_true'] at z;exact of_decide_eq_false z
   rw[if_neg z] at g;refine⟨_,rfl,r,_,_,rfl,R.obj,rfl,r,dr,l,us,toks,j,rfl,R,fun v f9 cE Wn=>?_⟩;rw[e1] at cE;cases cE;obtain⟨h0,x,dx,val,e,rfl,e4,e5⟩:=Wn;refine⟨x,_,_,_,_,rfl,e4,t.ba.cl,t.ba.nn,rfl,(by show 1<=sizeLine;decide),fun d hd=>d4 t.eN [(tk.place:Int)] rfl hd g.plain⟩
  ·have z:tk.kind=k/\strOf tk.text=s:=by rw[Bool.not_eq_false'] at z;exact of_decide_eq_true z
   rw[if_pos z] at g;refine⟨_,rfl,r,_,_,_,_,rfl,R.obj,t.aP.cl,t.aP.nn,rfl,j,1,rfl,rfl,dr,_,R.obj,(by show 2<1000;decide),?_⟩;rw[Jo];have kp:aH r H (upd H r (.ins t.aP.C dr (qt l (j+1)))):=fun b o e n=>by rw[aj n];exact e
   exact g _ kp (fun b e=>by rw[aj (fun q=>by rw[q,R.obj] at e;cases e)];exact e) (R.keep kp au (R.more e1 (by rcases hk with q |q<;>rw[z.1,q]<;>decide)))
theorem dt{toks:List VU}{j:Nat}{tk:VU}(h:toks[j]? =some tk):Vabldl.next (toks.drop j)=tk:=by
 rw[uL h];rfl
theorem jc(toks:List VU)(j:Nat):(toks.drop j).drop 1=toks.drop (j+1):=by rw[List.drop_drop]
theorem Pg(n:VT)(ns:List VT):i4 (.str (strOf n)) (ns.map fun m=>V.str (strOf m))=ns.contains n:=by
 unfold i4;rw[List.any_map,Bool.eq_iff_iff,List.any_eq_true,List.contains_iff_mem];constructor
 ·rintro⟨m,hm,e⟩;have:strOf m=strOf n:=eq_of_beq e;rw[<-jN this];exact hm
 ·intro h;exact⟨n,h,beq_self_eq_true (strOf n)⟩
theorem ON(ns:List VT):(ns.map fun m=>V.str (strOf m)).all jX=true:=by
 rw[List.all_map,List.all_eq_true];intro m _;rfl
def cb(t:Tx K mg w)(r:Addr)(H:Hp)(E:XK){A:Type}(g:Vabldl.Got A)(S:A->List VU->Prop):Prop:=match g with
 | .ok x=>S x.1 x.2
 | .error e=>da t r H e E
theorem mi{t:Tx K mg w}{r dr l:Addr}{us:List V}{toks:List VU}{H0 H:Hp}{j:Nat}{E:XK}{A:Type}{s:String}{f:List VU->Vabldl.Got A}{S:A->List VU->Prop}{Q:Hp->Prop}
  (hs:Str.ofString s=strOf (Vabldl.str s)) (o:cb t r H0 E (Vabldl.sign s (toks.drop j) f) S) (k:aH r H0 H) (R:bh t r dr l us toks H j)
  (nx: ∀H',aH r H H'->(∀b,H b=none->H' b=none)->bh t r dr l us toks H' (j+1)->cb t r H0 E (f (toks.drop (j+1))) S->Q H'): ∀tk,toks[j]? =some tk->
   if tk.kind=5/\strOf tk.text=Str.ofString s then ∀H',aH r H H'->(∀b,H b=none->H' b=none)->bh t r dr l us toks H' (j+1)->Q H' else da t r H {kind:=3,place:=tk.place} E:=by
 intro tk e;unfold Vabldl.sign at o;have en:=dt e;have ei:Vabldl.isSign s (toks.drop j)=true↔(tk.kind=5/\strOf tk.text=Str.ofString s):=by
  rw[gP,en,hs];exact⟨fun h=>⟨h.1,by rw[h.2]⟩,fun h=>⟨h.1,jN h.2⟩⟩
 by_cases c:tk.kind=5/\strOf tk.text=Str.ofString s
 ·rw[if_pos (ei.mpr c),jc] at o;rw[if_pos c];exact fun H' k' fr R'=>nx H' k' fr R' o
 ·rw[if_neg (fun h=>c (ei.mp h))] at o;rw[if_neg c];have o:da t r H0 {kind:=3,place:=(Vabldl.next (toks.drop j)).place} E:=o;rw[en] at o;exact o.keep k R.obj
theorem Dq{t:Tx K mg w}{r dr l:Addr}{us:List V}{toks:List VU}{H0 H:Hp}{j:Nat}{E:XK}{A:Type}{s:String}{f:List VU->Vabldl.Got A}{S:A->List VU->Prop}{Q:Hp->Prop}
  (hs:Str.ofString s=strOf (Vabldl.str s)) (o:cb t r H0 E (Vabldl.word s (toks.drop j) f) S) (k:aH r H0 H) (R:bh t r dr l us toks H j)
  (nx: ∀H',aH r H H'->(∀b,H b=none->H' b=none)->bh t r dr l us toks H' (j+1)->cb t r H0 E (f (toks.drop (j+1))) S->Q H'): ∀tk,toks[j]? =some tk->
   if tk.kind=1/\strOf tk.text=Str.ofString s then ∀H',aH r H H'->(∀b,H b=none->H' b=none)->bh t r dr l us toks H' (j+1)->Q H' else da t r H {kind:=3,place:=tk.place} E:=by
 intro tk e;unfold Vabldl.word at o;have en:=dt e;have ei:Vabldl.isWord s (toks.drop j)=true↔(tk.kind=1/\strOf tk.text=Str.ofString s):=by
  rw[jd,en,hs];exact⟨fun h=>⟨h.1,by rw[h.2]⟩,fun h=>⟨h.1,jN h.2⟩⟩
 by_cases c:tk.kind=1/\strOf tk.text=Str.ofString s
 ·rw[if_pos (ei.mpr c),jc] at o;rw[if_pos c];exact fun H' k' fr R'=>nx H' k' fr R' o
 ·rw[if_neg (fun h=>c (ei.mp h))] at o;rw[if_neg c];have o:da t r H0 {kind:=3,place:=(Vabldl.next (toks.drop j)).place} E:=o;rw[en] at o;exact o.keep k R.obj
theorem OG{t:Tx K mg w}{r dr l:Addr}{us:List V}{toks:List VU}{H0 H:Hp}{j:Nat}{E:XK}{A:Type}{f:VT->List VU->Vabldl.Got A}{S:A->List VU->Prop}{Q:VK}
  (o:cb t r H0 E (Vabldl.quoted (toks.drop j) f) S) (k:aH r H0 H) (R:bh t r dr l us toks H j)
  (nx: ∀H' v tx,aH r H H'->(∀b,H b=none->H' b=none)->bh t r dr l us toks H' (j+1)->cW H' v tx->cb t r H0 E (f tx (toks.drop (j+1))) S->Q v H'): ∀tk,toks[j]? =some tk->
   if tk.kind=3 then ∀H' v,aH r H H'->(∀b,H b=none->H' b=none)->bh t r dr l us toks H' (j+1)->m6 H' 3 tk.text v->Q v H' else da t r H {kind:=3,place:=tk.place} E:=by
 intro tk e;unfold Vabldl.quoted at o;have en:=dt e;rw[en] at o
 by_cases c:tk.kind=3
 ·rw[if_pos c,jc] at o;rw[if_pos c];exact fun H' v k' fr R' tv=>nx H' v _ k' fr R' tv o
 ·rw[if_neg c] at o;rw[if_neg c];have o:da t r H0 {kind:=3,place:=(Vabldl.next (toks.drop j)).place} E:=o;rw[en] at o;exact o.keep k R.obj
def bT(H:Hp):Addr->Prop:=fun b=>H b≠none
inductive ED(t:Tx K mg w)(vs:List V)(H:Hp)(Q:VK)(E:XK):Prop
 |mk(r dr l kn:Addr)(us:List V)(toks:List VU)(j:Nat)(ns:List VT)(tk:VU):vs=[.ref r,.ref kn]->bh t r dr l us toks H j->(bu K H kn (ns.map fun m=>V.str (strOf m)))->toks[j]? =some tk->tk.kind=4->(if ns.contains tk.text=true then ∀H' v,aH r H H'->bh t r dr l us toks H' (j+1)->aV t (bT H) H' 1 v (.var tk.text)->Q v H' else da t r H {kind:=5,place:=tk.place} E)->ED t vs H Q E
inductive Io(t:Tx K mg w)(vs:List V)(H:Hp)(Q:VK)(E:XK):Prop
 |mk(r dr l:Addr)(us:List V)(toks:List VU)(j n:Nat):vs=[.ref r,.int (n:Int)]->n<=2->bh t r dr l us toks H j->(cb t r H E (ej n (toks.drop j)) fun tx ts=> ∀H' lt tv j',j<=j'->aH r H H'->bh t r dr l us toks H' j'->toks.drop j'=ts->H lt=none->H' lt=some (.lst tv)->Paired (cW H') tv tx->tx.length=n->Q (.ref lt) H')->Io t vs H Q E
theorem Ob(dn:List VT)(m:Nat)(ts:List VU):Vabldl.andThen (ej (m+1) ts) (fun l d=> .ok (dn++l,d))=Vabldl.quoted ts fun x b=>Vabldl.sign "," b fun c=>Vabldl.andThen (ej m c) fun l d=> .ok ((dn++[x])++l,d):=by
 simp only [ej,mf,jI,kL,kT,List.append_assoc,List.singleton_append]
theorem Paired.snoc{α β:Type}{P:α->β->Prop}{xs:List α}{ys:List β}{x:α}{y:β}(p:Paired P xs ys)(h:P x y):Paired P (xs++[x]) (ys++[y]):=by
 induction p with
 |nil=>exact .cons h .nil
 |cons a b ih=>exact .cons a ih
theorem Ow(t:Tx K mg w):aB P w K mg base (aC P w cs) 7 t.nU.f t.nU.fd ["self","known"] (ED t):=by
 refine t.nU.F.aJ true Bv (fun vs H Q E h=>?_) (fun ay A outer s H vs Q E hr h=>?_)
 ·obtain⟨r,dr,l,kn,us,toks,j,ns,tk,rfl,_⟩:=h;rfl
 ·obtain⟨r,dr,l,kn,us,toks,j,ns,tk,rfl,R,AN,e1,tM,g⟩:=h;have bj:az 5 _:=hr.mono (by decide);have dN:az 4 _:=hr.mono (by decide);have cP:az 2 _:=hr.mono (by decide);refine⟨_,ak (aT 2 Bv.nd (cj (pv 0) t.aP.cl t.c9.me (je (cs:=cs) t) bj t.c9.b .nil (ax (cs:=cs))))<|
   ak (a9 (bg NQ (aQ (pv 2) rfl) (pv 1) rfl)
    (ao (jg aE rfl (t.nW.d3 rfl) (MQ (cs:=cs) t) dN rfl t.fK.m t.nW.b (ax (cs:=cs)) (ae (aQ (pv 2) rfl) ag))) a_)<|
   ao (aD (fO (t.oy.fG rfl) (Oi (cs:=cs) t) cP rfl t.b_.m t.oy.b .nil (ax (cs:=cs)) (ae (bz (pv 0) t.aP.cl t.dD.me (jS (cs:=cs) t) hr t.dD.b .nil aE.passes (ae aZ ag)) ag))),?_⟩
  refine⟨_,rfl,r,_,_,rfl,R.obj,rfl,r,dr,l,us,toks,j,rfl,R,fun v f9 cE e3=>?_⟩;rw[e1] at cE;cases cE;obtain⟨h0,x,dx,val,e,rfl,e4,e5⟩:=e3;have ev:val= .str (strOf tk.text):=by rw[tM] at e5;exact e5
  subst ev;dsimp only [d6,de,Ends.d9];refine aS (!ns.contains tk.text) (fun Rb hR=>?_) (fun z=>?_) fun z=>?_
  ·refine⟨_,rfl,x,_,_,_,_,rfl,e4,t.ba.cl,t.ba.nn,rfl,_,rfl,kn,_,rfl,.inr AN,rfl,ON ns,_,rfl,?_⟩;show Rb (!i4 (.str (strOf tk.text)) (ns.map fun m=>V.str (strOf m))) H;rw[Pg];exact hR
  ·rw[Bool.not_eq_true'] at z;rw[if_neg (by rw[z];decide)] at g;refine⟨_,rfl,x,_,_,_,_,rfl,e4,t.ba.cl,t.ba.nn,rfl,(by show 1<=sizeLine;decide),fun d hd=>d4 t.fK [(tk.place:Int)] rfl hd g.plain⟩
  ·rw[Bool.not_eq_false'] at z;rw[if_pos z] at g;refine⟨_,rfl,r,_,_,rfl,R.obj,rfl,r,dr,l,us,toks,j,4,rfl,by decide,by decide,R,fun f9 cE=>?_⟩;rw[e1] at cE;cases cE;rw[if_pos tM];intro H1 v k1 f1 R1 hv;have hv:v= .str (strOf tk.text):=hv;subst hv;intro b db hb bC bo;refine jq (us:=[_]) rfl hb bC bo fun H2 b' gz aY cy _ _ e2=>?_;refine g H2 (.ref b') (k1.trans (aH.of aY)) (R1.same aY) (.var (fun z=>?_) e2);exact z (k1.free R1.obj cy)
theorem QV(t:Tx K mg w):aB P w K mg base (aC P w cs) 8 t.nY.f t.nY.fd ["self","wanted"] (Io t):=by
 refine t.nY.F.aJ true BE (fun vs H Q E h=>?_) (fun ay A outer s H vs Q E hr h=>?_)
 ·obtain⟨r,dr,l,us,toks,j,n,rfl,_⟩:=h;rfl
 ·obtain⟨r,dr,l,us,toks,j0,n,rfl,iZ,R,o⟩:=h;have bB:az 6 _:=hr.mono (by decide);refine⟨_,ak (aT 2 BE.nd (dw ag))<|
   ak (jQ eu (bg pE (bV dH rfl t.dy rfl (ae (pv 2) ag)) (pv 1) (bc _))
    (ak (bA (eQ PySem.F.plainAttrs_list PySem.F.slot_list_append PySem.F.type_list_append iD (pv 2) (ae (bz (pv 0) t.aP.cl t.dD.me (jS (cs:=cs) t) bB t.dD.b .nil aE.passes (ae aZ ag)) ag)))<|
     ao (bA (bz (pv 0) t.aP.cl t.dA.me (jL (cs:=cs) t) hr t.dA.b .nil aE.passes (ae aZ<|ae aZ ag)))))<|
   ao (aD (pv 2)),?_⟩
  refine⟨Nat.zero_le _,fun lt aW=>?_⟩;have jC:lt≠r:=fun q=>by rw[q,R.obj] at aW;cases aW
  refine⟨fun kk σ H'=>σ=[some (.ref r),some (.int (n:Nat)),some (.ref lt)]/\aH r H H'/\ ∃j tv dn m,j0<=j/\bh t r dr l us toks H' j/\H' lt=some (.lst tv)/\Paired (cW H') tv dn/\dn.length+m=n/\cb t r H E (Vabldl.andThen (ej m (toks.drop j)) fun l d=> .ok (dn++l,d)) (fun tx ts=> ∀H' lt tv j',j0<=j'->aH r H H'->bh t r dr l us toks H' j'->toks.drop j'=ts->H lt=none->H' lt=some (.lst tv)->Paired (cW H') tv tx->tx.length=n->Q (.ref lt) H')/\kk=m,
   ⟨n,rfl,aH.of (ai.new aW),j0,[],[],n,Nat.le_refl _,R.same (ai.new aW),au,.nil,Nat.zero_add n,?_,rfl⟩,?_⟩
  ·have:Vabldl.andThen (ej n (toks.drop j0)) (fun l d=>(.ok ([]++l,d):Vabldl.Got _))=ej n (toks.drop j0):=by
    cases ej n (toks.drop j0)<;>rfl
   rw[this];exact o
  intro kk σ H1 hI;refine hide fun _ kG=>?_;obtain⟨rfl,k1,j,tv,dn,m,hj,R1,e1,hp,bH,o1,rfl⟩:=hI;refine kG ?_;have gD:tv.length=dn.length:=Paired.length hp;refine rP (decide (tv.length<n)) (fun Rb hR=>⟨_,rfl,lt,_,rfl,.inl (aA.of e1),_,rfl,tv.length,n,rfl,rfl,_,rfl,hR⟩) (fun z=>?_) fun z=>?_
  ·have hm:=of_decide_eq_true z;obtain⟨m',rfl⟩: ∃m',kk=m'+1:=⟨kk-1,by omega⟩;refine⟨fun σ' H'=>σ'=[some (.ref r),some (.int (n:Nat)),some (.ref lt)]/\aH r H H'/\ ∃j tv dn,j0<=j/\bh t r dr l us toks H' j/\H' lt=some (.lst tv)/\Paired (cW H') tv dn/\dn.length+m'=n/\cb t r H E (Vabldl.andThen (ej m' (toks.drop j)) fun l d=> .ok (dn++l,d)) (fun tx ts=> ∀H' lt tv j',j0<=j'->aH r H H'->bh t r dr l us toks H' j'->toks.drop j'=ts->H lt=none->H' lt=some (.lst tv)->Paired (cW H') tv tx->tx.length=n->Q (.ref lt) H'),?_,?_⟩
   ·intro σ' H' hI;refine hide fun _ kG=>?_;obtain⟨rfl,h1,j,tv,dn,h0,h2,h3,h4,h5,h6⟩:=hI;refine kG ?_;exact⟨m',Nat.lt_succ_self _,rfl,h1,j,tv,dn,m',h0,h2,h3,h4,h5,h6,rfl⟩
   rw[Ob] at o1;refine⟨_,rfl,.inl ⟨rfl,_,aA.of e1⟩,_,rfl,r,_,_,rfl,R1.obj,rfl,r,dr,l,us,toks,j,3,rfl,by decide,by decide,R1,OG o1 k1 R1 fun H2 v tx k2 f2 R2 hv o2=>?_⟩;have e2:H2 lt=some (.lst tv):=k2 _ _ e1 jC;refine⟨lt,_,_,rfl,rfl,e2,Nat.lt_of_le_of_lt (show tv.length<=2 by omega) (by decide),?_⟩;have s3:aH r H (upd H2 lt (.lst (tv++[v]))):=fun b ob e n=>by
    rw[aj (aR e aW)];exact(k1.trans k2) b ob e n
   have R3:bh t r dr l us toks (upd H2 lt (.lst (tv++[v]))) (j+1):=by
    have tQ:lt≠l:=fun q=>by have:=R.lst;rw[<-q,aW] at this;cases this
    have fm:dh H2 (upd H2 lt (.lst (tv++[v]))):=dh.lst e2;exact⟨fm.1 _ _ _ _ R2.obj,by rw[aj (Ne.symm tQ)];exact R2.lst,R2.tok.hX fm,R2.lt,R2.fin,R2.num,R2.sz⟩
   have fm:dh H2 (upd H2 lt (.lst (tv++[v]))):=dh.lst e2;refine⟨_,rfl,r,_,_,rfl,R3.obj,rfl,r,dr,l,us,toks,j+1,5,_,rfl,.inr rfl,R3,mi (by decide +kernel) o2 s3 R3 fun H4 k4 f4 R4 o4=>?_⟩;have e4:H4 lt=some (.lst (tv++[v])):=k4 _ _ au jC;refine⟨rfl,s3.trans k4,j+1+1,tv++[v],dn++[tx],by omega,R4,e4,?_,by rw[List.length_append];show dn.length+1+m'=n;omega,o4⟩;have KI: ∀b xs,(upd H2 lt (.lst (tv++[v]))) b=some (.tup xs)->H4 b=some (.tup xs):=fun b xs e=>k4 _ _ e fun q=>by rw[q,R3.obj] at e;cases e
   refine Paired.snoc (Paired.c5 (fun a c g=>(g.keep (fun b xs e=>?_)).keep (fun b xs e=>KI b xs (fm.2 b xs e))) hp) ((hv.keep fm.2).keep KI);exact k2 _ _ e fun q=>by rw[q,R1.obj] at e;cases e
  ·have hm:kk=0:=by have:=of_decide_eq_false z;omega
   subst hm;refine⟨_,rfl,o1 H1 lt tv j hj k1 R1 rfl aW e1 ?_ ?_⟩
   ·show Paired _ tv (dn++[]);rw[List.append_nil];exact hp
   ·show(dn++[]).length=n;rw[List.append_nil];omega
def kE(n:Nat):Nat:=10+5*n
abbrev A5(ns:List Vabldl.Text):List V:=ns.map fun m=>V.str (strOf m)
structure Kn(H:Hp)(kn:Addr)(ns ks:List VT)(n:Nat):Prop where
 at_:H kn=some (.tup (A5 ns))
 same: ∀x,ns.contains x=ks.contains x
 gB:ns.length+n<=20
section
variable{K:FG}{mg:Str->Option Value}{w:World}
theorem Kn.keep{t:Tx K mg w}{r dr l:Addr}{us:List V}{toks:List VU}{j:Nat}{H H':Hp}{kn:Addr}{ns ks:List VT}{n:Nat}(h:Kn H kn ns ks n)(R:bh t r dr l us toks H j)(k:aH r H H'):Kn H' kn ns ks n:=
 ⟨k _ _ h.at_ (fun q=>by have:=h.at_;rw[q,R.obj] at this;cases this),h.same,h.gB⟩
theorem Kn.less{H:Hp}{kn:Addr}{ns ks:List VT}{n:Nat}(h:Kn H kn ns ks (n+1)):Kn H kn ns ks n:=⟨h.at_,h.same,by have:=h.gB;omega⟩
def iP(t:Tx K mg w)(r dr l:Addr)(us:List V)(toks:List VU)(j:Nat)(H:Hp)(E:XK)(Q:VK)(d:Nat)(g:Vabldl.Got Qy):Prop:=
 cb t r H E g fun q ts=> ∀H' v j',j<j'->aH r H H'->bh t r dr l us toks H' j'->toks.drop j'=ts->aV t (bT H) H' d v q->Q v H'
inductive mX(t:Tx K mg w)(n uc d:Nat)(G:List VT->List VU->Vabldl.Got Qy)(vs:List V)(H:Hp)(Q:VK)(E:XK):Prop
 |mk(r dr l kn:Addr)(us:List V)(toks:List VU)(j:Nat)(ns ks:List VT):vs=[.ref r,.int (uc:Int),.ref kn]->bh t r dr l us toks H j->Kn H kn ns ks n->iP t r dr l us toks j H E Q d (G ks (toks.drop j))->mX t n uc d G vs H Q E
theorem lr{t:Tx K mg w}{r dr l:Addr}{us:List V}{toks:List VU}{H0 H:Hp}{j:Nat}{E:XK}{A:Type}{G:Vabldl.Got Qy}{f:Qy->List VU->Vabldl.Got A}{S:A->List VU->Prop}{Q:VK}{d:Nat}
  (o:cb t r H0 E (Vabldl.andThen G f) S) (k:aH r H0 H) (R:bh t r dr l us toks H j)
  (nx: ∀q H' v j',j<j'->aH r H H'->bh t r dr l us toks H' j'->aV t (bT H) H' d v q->cb t r H0 E (f q (toks.drop j')) S->Q v H'):iP t r dr l us toks j H E Q d G:=by
 unfold iP;cases G with
 |error e=>exact da.keep (show da t r H0 e E from o) k R.obj
 |ok x=>
  intro H' v j' lt k' R' e hq;have o:cb t r H0 E (f x.1 x.2) S:=o;rw[<-e] at o;exact nx _ H' v j' lt k' R' hq o
def mS(sub:Vabldl.Sub)(vs:List VT):Nat->List VU->Vabldl.Got (List Qy)
 |0,ts=> .ok ([],ts)
 |m+1,ts=>Vabldl.sign "," ts fun c=>Vabldl.andThen (sub vs c) fun x b=>Vabldl.andThen (mS sub vs m b) fun l d=> .ok (x::l,d)
theorem DM(sub:Vabldl.Sub)(vs:List VT): ∀(m:Nat)(ts:List VU),iL sub vs m ts=Vabldl.andThen (sub vs ts) fun x b=>Vabldl.andThen (mS sub vs m b) fun l d=> .ok (x::l,d)
 |0,ts=>rfl
 |m+1,ts=>by
  show Vabldl.andThen (sub vs ts) _=_
  congr 1
  funext x b
  show Vabldl.sign "," b _=Vabldl.andThen (Vabldl.sign "," b _) _;rw[jI]
  congr 1
  funext c
  rw[DM sub vs m c]
theorem OO(sub:Vabldl.Sub)(vs:List VT)(dn:List Qy)(m:Nat)(ts:List VU):Vabldl.andThen (mS sub vs (m+1) ts) (fun l d=> .ok (dn++l,d))=Vabldl.sign "," ts fun c=>Vabldl.andThen (sub vs c) fun x b=>Vabldl.andThen (mS sub vs m b) fun l d=> .ok ((dn++[x])++l,d):=by
 simp only [mS,jI,kL,kT,List.append_assoc,List.singleton_append]
def ze(t:Tx K mg w)(r dr l:Addr)(us:List V)(toks:List VU)(j:Nat)(H:Hp)(Q:VK)(d m:Nat)(qs:List Qy)(ts:List VU):Prop:= ∀H' lp pv j',j<j'->aH r H H'->bh t r dr l us toks H' j'->toks.drop j'=ts->H lp=none->H' lp=some (.lst pv)->
  Paired (aV t (fun b=>bT H b∨b=lp) H' d) pv qs->qs.length=m+1->Q (.ref lp) H'
inductive Ij(t:Tx K mg w)(n uc d:Nat)(sub:Vabldl.Sub)(vs:List V)(H:Hp)(Q:VK)(E:XK):Prop
 |mk(r dr l kn:Addr)(us:List V)(toks:List VU)(j m:Nat)(ns ks:List VT):vs=[.ref r,.int ((m+1:Nat):Int),.int (uc:Int),.ref kn]->m<=1->bh t r dr l us toks H j->Kn H kn ns ks n->cb t r H E (iL sub ks m (toks.drop j)) (ze t r dr l us toks j H Q d m)->Ij t n uc d sub vs H Q E
variable{P:Program}{base:Heap}{cs:Addr}{n:Nat}
abbrev FE(P:Program)(base:Heap)(cs:Addr)(t:Tx K mg w)(n:Nat):Prop:=aB P w K mg base (aC P w cs) (kE n) t.eM.f t.eM.fd ["self","level","known"] (mX t n (21-n) (2*n) (Vabldl.expr n))
theorem QT(t:Tx K mg w)(F:FE P base cs t n):aB P w K mg base (aC P w cs) (kE n+1) t.nX.f t.nX.fd ["self","wanted","level","known"] (Ij t n (21-n) (2*n) (Vabldl.expr n)):=by
 refine t.nX.F.aJ true BD (fun vs H Q E h=>?_) (fun ay A outer s H vs Q E hr h=>?_) (hk:=fun _=>by unfold kE;omega)
 ·obtain⟨r,dr,l,kn,us,toks,j,m,ns,ks,rfl,_⟩:=h;rfl
 ·obtain⟨r,dr,l,kn,us,toks,j0,m0,ns,ks,rfl,AO,R,dZ,o⟩:=h;have eI:az 7 _:=hr.mono (by unfold kE;omega);refine⟨_,ak (aT 4 BD.nd (dw (ae (bz (pv 0) t.aP.cl t.eM.me F hr t.eM.b .nil aE.passes (ae (pv 2)<|ae (pv 3) ag)) ag)))<|
   ak (jQ eu (bg pE (bV dH rfl t.dy rfl (ae (pv 4) ag)) (pv 1) (bc _))
    (ak (bA (bz (pv 0) t.aP.cl t.dA.me (jL (cs:=cs) t) eI t.dA.b .nil aE.passes (ae aZ<|ae aZ ag)))<|
     ao (bA (eQ PySem.F.plainAttrs_list PySem.F.slot_list_append PySem.F.type_list_append iD (pv 4) (ae (bz (pv 0) t.aP.cl t.eM.me F hr t.eM.b .nil aE.passes (ae (pv 2)<|ae (pv 3) ag)) ag)))))<|
   ao (aD (pv 4)),?_⟩
  rw[DM] at o;refine⟨_,rfl,r,_,_,rfl,R.obj,rfl,_,rfl,_,rfl,r,dr,l,kn,us,toks,j0,ns,ks,rfl,R,dZ,lr o aH.refl R fun q1 H1 v1 j1 tL k1 R1 tV o1=>?_⟩;refine⟨(by show 1<=sizeLine;decide),fun lp gF=>?_⟩;have j_:H lp=none:=k1.free R1.obj gF;have jC:lp≠r:=fun q=>by rw[q,R.obj] at j_;cases j_
  have tQ:lp≠l:=fun q=>by have:=R.lst;rw[<-q,j_] at this;cases this
  have A3:=dZ.keep R k1;have fresh:aV t (fun b=>bT H b∨b=lp) (upd H1 lp (.lst [v1])) (2*n) v1 q1:=aV.keep (fun b ob e nb=>⟨fun z=>z.elim nb (fun z=>by rw[z,gF] at e;cases e),by rw[aj (aR e gF)];exact e⟩) (fun b xs e=>by rw[aj (aR e gF)];exact e) _ _ _ tV;refine⟨fun kk σ H'=>σ=[some (.ref r),some (.int ((m0+1:Nat):Int)),some (.int ((21-n:Nat):Int)),some (.ref kn),some (.ref lp)]/\aH r H H'/\ ∃j pv dn m,j0<j/\bh t r dr l us toks H' j/\Kn H' kn ns ks n/\H' lp=some (.lst pv)/\Paired (aV t (fun b=>bT H b∨b=lp) H' (2*n)) pv dn/\dn.length+m=m0+1/\
    cb t r H E (Vabldl.andThen (mS (Vabldl.expr n) ks m (toks.drop j)) fun l d=> .ok (dn++l,d)) (ze t r dr l us toks j0 H Q (2*n) m0)/\kk=m,
   ⟨m0,rfl,k1.trans (aH.of (ai.new gF)),j1,[v1],[q1],m0,tL,R1.same (ai.new gF),A3.keep R1 (aH.of (ai.new gF)),au,.cons fresh .nil,Nat.add_comm 1 m0,o1,rfl⟩,?_⟩
  intro kk σ H2 hI;refine hide fun _ kG=>?_;obtain⟨rfl,k2,j,pv,dn,m,hj,R2,A4,e2,hp,bH,o2,rfl⟩:=hI;refine kG ?_;have gD:pv.length=dn.length:=Paired.length hp;refine rP (decide (pv.length<m0+1)) (fun Rb hR=>⟨_,rfl,lp,_,rfl,.inl (aA.of e2),_,rfl,pv.length,m0+1,rfl,rfl,_,rfl,hR⟩) (fun z=>?_) fun z=>?_
  ·have hm:=of_decide_eq_true z;obtain⟨m',rfl⟩: ∃m',kk=m'+1:=⟨kk-1,by omega⟩;refine⟨fun σ' H'=>σ'=[some (.ref r),some (.int ((m0+1:Nat):Int)),some (.int ((21-n:Nat):Int)),some (.ref kn),some (.ref lp)]/\aH r H H'/\ ∃j pv dn,j0<j/\bh t r dr l us toks H' j/\Kn H' kn ns ks n/\H' lp=some (.lst pv)/\Paired (aV t (fun b=>bT H b∨b=lp) H' (2*n)) pv dn/\dn.length+m'=m0+1/\
    cb t r H E (Vabldl.andThen (mS (Vabldl.expr n) ks m' (toks.drop j)) fun l d=> .ok (dn++l,d)) (ze t r dr l us toks j0 H Q (2*n) m0),?_,?_⟩
   ·rintro σ' H' ⟨rfl,h1,j,pv,dn,h2⟩;obtain⟨h2,h3,h4,h5,h6,h7,h8⟩:=h2;exact⟨m',Nat.lt_succ_self _,rfl,h1,j,pv,dn,m',h2,h3,h4,h5,h6,h7,h8,rfl⟩
   rw[OO] at o2;refine⟨_,rfl,r,_,_,rfl,R2.obj,rfl,r,dr,l,us,toks,j,5,_,rfl,.inr rfl,R2,mi (by decide +kernel) o2 k2 R2 fun H3 k3 f3 R3 o3=>?_⟩;have e3:H3 lp=some (.lst pv):=k3 _ _ e2 jC;have fZ:=A4.keep R2 k3;refine⟨_,rfl,.inl ⟨rfl,_,aA.of e3⟩,_,rfl,r,_,_,rfl,R3.obj,rfl,_,rfl,_,rfl,r,dr,l,kn,us,toks,j+1,ns,ks,rfl,R3,fZ,lr o3 (k2.trans k3) R3 fun q4 H4 v4 j4 AK k4 R4 tW o4=>?_⟩;have e4:H4 lp=some (.lst pv):=k4 _ _ e3 jC;refine⟨lp,_,_,rfl,rfl,e4,Nat.lt_of_le_of_lt (show pv.length<=2 by omega) (by decide),?_⟩;have fm:dh H4 (upd H4 lp (.lst (pv++[v4]))):=dh.lst e4;have kr:aH r H (upd H4 lp (.lst (pv++[v4]))):=fun b ob e nb=>by
    rw[aj (aR e j_)];exact((k2.trans k3).trans k4) b ob e nb
   have R5:bh t r dr l us toks (upd H4 lp (.lst (pv++[v4]))) j4:=⟨fm.1 _ _ _ _ R4.obj,by rw[aj (Ne.symm tQ)];exact R4.lst,R4.tok.hX fm,R4.lt,R4.fin,R4.num,R4.sz⟩;have qm:Kn (upd H4 lp (.lst (pv++[v4]))) kn ns ks n:=⟨fm.2 _ _ (fZ.keep R3 k4).at_,fZ.same,fZ.gB⟩;have iu: ∀b,(bT H b∨b=lp)->bT H3 b:=fun b z=>by
    rcases z with z |z
    ·by_cases q:b=r
     ·rw[q];exact fun y=>by rw[R3.obj] at y;cases y
     ·intro y;cases e:H b with
      |none=>exact z e
      |some ob=>rw[(k2.trans k3) b ob e q] at y;cases y
    ·rw[z];exact fun y=>by rw[e3] at y;cases y
   refine⟨rfl,kr,j4,pv++[v4],dn++[q4],by omega,R5,qm,au,Paired.snoc (Paired.c5 (fun v q g=>?_) hp) ?_,by rw[List.length_append];show dn.length+1+m'=_;omega,o4⟩
   ·refine aV.keep (fun b ob e nb=>⟨nb,?_⟩) (fun b xs e=>?_) _ _ _ g
    ·have nG:b≠lp:=fun q=>nb (.inr q);have nH:b≠r:=fun q=>nb (.inl (by rw[q];exact fun y=>by rw[R.obj] at y;cases y));rw[aj nG];exact(k3.trans k4) b ob e nH
    ·have nG:b≠lp:=fun q=>by rw[q,e2] at e;cases e
     have nH:b≠r:=fun q=>by rw[q,R2.obj] at e;cases e
     rw[aj nG];exact(k3.trans k4) b _ e nH
   ·refine aV.keep (fun b ob e nb=>⟨fun z=>nb (iu b z),?_⟩) (fun b xs e=>fm.2 b xs e) _ _ _ tW;rw[aj (fun q=>nb (iu b (.inr q)))];exact e
  ·have hm:kk=0:=by have:=of_decide_eq_false z;omega
   subst hm;refine⟨_,rfl,o2 H2 lp pv j hj k2 R2 rfl j_ e2 ?_ ?_⟩
   ·show Paired _ pv (dn++[]);rw[List.append_nil];exact hp
   ·show(dn++[]).length=m0+1;rw[List.append_nil];omega
end
namespace K9
theorem Ry{X:Cx}:bJ X (binaryOp .Add) (fun x y H Q=> ∃a b xs ys,x= .ref a/\y= .ref b/\H a=some (.tup xs)/\H b=some (.tup ys)/\ys≠[]/\xs.length+ys.length<=sizeLine/\ ∀H' p,ai H H'->H' p=some (.tup (xs++ys))->Q (.ref p) H'):=by
 rintro aa s σ H x y v u Q I rx ry ⟨a,b,xs,ys,rfl,rfl,ha,hb,hy,hz,q⟩
 by_cases hx:xs=[]
 ·subst hx;cases rx;cases ry;obtain⟨aq,r1,p1,_⟩:=I.tuple (bW ha);obtain⟨kc,r2,p2,_⟩:=I.tuple (bW hb);obtain⟨⟨cls,dd,data,sl⟩,ho,hc,n,hd⟩:=id p1;obtain⟨⟨Vl,wD,data2,xh⟩,nA,ko,n2,fh⟩:=id p2;simp only at hc hd ko fh;subst hc hd ko fh;cases r1;exact concat_meets ⟨_,ho,rfl⟩ ⟨_,nA,rfl⟩ noFill_tuple_add seq_tuple_add PySem.F.slot_tuple_add PySem.F.entry_tuple_add (PySem.F.args_tuple_add_2 _ _)
   (tuple_addW0 a b _ _ n n2 dd wD sl xh (by simp)) ⟨ho,nA,⟨.ref b,H,I,rfl,q H b (ai.refl H) hb⟩⟩
 ·exact Se aa s σ H _ _ v u Q I rx ry ⟨a,b,xs,ys,rfl,rfl,bW ha,bW hb,hx,hz,fun e=>absurd e hy,fun _ p hp=>q _ p (ai.new hp) au⟩
end K9
section
variable{K:FG}{mg:Str->Option Value}{w:World}{P:Program}{base:Heap}{cs:Addr}{n:Nat}
theorem wg{n:Nat}(h:n<20):((20-n+1:Nat):Int)=((21-n:Nat):Int):=by rw[show 20-n+1=21-n by omega]
theorem bT.keep{r:Addr}{H H':Hp}{o:HO}(k:aH r H H')(hr:H' r=some o){b:Addr}(h:bT H b):bT H' b:=fun e=>h (k.free hr e)
theorem PK(t:Tx K mg w)(F:FE P base cs t n)(hn:n<20):aB P w K mg base (aC P w cs) (kE n+1) t.nS.f t.nS.fd ["self","level","known"]
  (mX t (n+1) (20-n) (2*n) fun ks ts=>Vabldl.sign "(" ts fun a=>Vabldl.andThen (Vabldl.expr n ks a) fun x b=>Vabldl.sign ")" b fun c=> .ok (x,c)):=by
 refine t.nS.F.aJ true Bt (fun vs H Q E h=>?_) (fun ay A outer s H vs Q E hr h=>?_) (hk:=fun _=>by unfold kE;omega)
 ·obtain⟨r,dr,l,kn,us,toks,j,ns,ks,rfl,_⟩:=h;rfl
 ·obtain⟨r,dr,l,kn,us,toks,j0,ns,ks,rfl,R,dZ,o⟩:=h;have eI:az 7 _:=hr.mono (by unfold kE;omega);refine⟨_,ak (bA (bz (pv 0) t.aP.cl t.dA.me (jL (cs:=cs) t) eI t.dA.b .nil aE.passes (ae aZ<|ae aZ ag)))<|
   ak (aT 3 Bt.nd (bz (pv 0) t.aP.cl t.eM.me F hr t.eM.b .nil aE.passes (ae (a0 iI (pv 1) aM)<|ae (pv 2) ag)))<|
   ak (bA (bz (pv 0) t.aP.cl t.dA.me (jL (cs:=cs) t) eI t.dA.b .nil aE.passes (ae aZ<|ae aZ ag)))<|
   ao (aD (pv 3)),?_⟩
  refine⟨_,rfl,r,_,_,rfl,R.obj,rfl,r,dr,l,us,toks,j0,5,_,rfl,.inr rfl,R,mi (by decide +kernel) o aH.refl R fun H1 k1 f1 R1 o1=>?_⟩;refine⟨_,rfl,r,_,_,rfl,R1.obj,rfl,_,rfl,20-n,1,rfl,rfl,_,rfl,r,dr,l,kn,us,toks,j0+1,ns,ks,(by rw[wg hn];rfl),R1,(dZ.keep R k1).less,lr o1 k1 R1 fun q2 H2 v2 j2 LB k2 R2 kx o2=>?_⟩;refine⟨_,rfl,r,_,_,rfl,R2.obj,rfl,r,dr,l,us,toks,j2,5,_,rfl,.inr rfl,R2,mi (by decide +kernel) o2 (k1.trans k2) R2 fun H3 k3 f3 R3 o3=>?_⟩;have XG:=(k1.trans k2).trans k3;refine⟨_,rfl,o3 H3 v2 (j2+1) (by omega) XG R3 rfl ?_⟩;exact aV.keep (fun b ob e nb=>⟨fun z=>nb (bT.keep k1 R1.obj z),k3 b ob e fun q=>nb (by rw[q];exact fun y=>by rw[R1.obj] at y;cases y)⟩) (fun b xs e=>k3 b _ e fun q=>by rw[q,R2.obj] at e;cases e) _ _ _ kx
theorem Tv(t:Tx K mg w)(F:FE P base cs t n)(hn:n<20):aB P w K mg base (aC P w cs) (kE n+1) t.oa.f t.oa.fd ["self","level","known"]
  (mX t (n+1) (20-n) (2*n+1) fun ks ts=>Vabldl.word "let" ts fun _=>Vabldl.letExpr (Vabldl.expr n) ks ts):=by
 refine t.oa.F.aJ true uo (fun vs H Q E h=>?_) (fun ay A outer s H vs Q E hr h=>?_) (hk:=fun _=>by unfold kE;omega)
 ·obtain⟨r,dr,l,kn,us,toks,j,ns,ks,rfl,_⟩:=h;rfl
 ·obtain⟨r,dr,l,kn,us,toks,j0,ns,ks,rfl,R,dZ,o⟩:=h;have eI:az 7 _:=hr.mono (by unfold kE;omega);have bB:az 6 _:=hr.mono (by unfold kE;omega);have cP:az 2 _:=hr.mono (by unfold kE;omega);refine⟨_,ak (bA (bz (pv 0) t.aP.cl t.dA.me (jL (cs:=cs) t) eI t.dA.b .nil aE.passes (ae aZ<|ae aZ ag)))<|
   ak (aT 3 uo.nd (bz (pv 0) t.aP.cl t.dD.me (jS (cs:=cs) t) bB t.dD.b .nil aE.passes (ae aZ ag)))<|
   ak (bA (bz (pv 0) t.aP.cl t.dA.me (jL (cs:=cs) t) eI t.dA.b .nil aE.passes (ae aZ<|ae aZ ag)))<|
   ak (aT 4 uo.nd (bz (pv 0) t.aP.cl t.eM.me F hr t.eM.b .nil aE.passes (ae (a0 iI (pv 1) aM)<|ae (pv 2) ag)))<|
   ak (bA (bz (pv 0) t.aP.cl t.dA.me (jL (cs:=cs) t) eI t.dA.b .nil aE.passes (ae aZ<|ae aZ ag)))<|
   ak (aT 5 uo.nd (bz (pv 0) t.aP.cl t.eM.me F hr t.eM.b .nil aE.passes (ae (a0 iI (pv 1) aM)<|ae (a0 K9.Ry (pv 2) (sh (ae (pv 3) ag))) ag)))<|
   ao (aD (fO (t.oQ.fG rfl) (Tr (cs:=cs) t) cP rfl t.bF.m t.oQ.b .nil (ax (cs:=cs)) (ae (pv 3)<|ae (pv 4)<|ae (pv 5) ag))),?_⟩
  refine⟨_,rfl,r,_,_,rfl,R.obj,rfl,r,dr,l,us,toks,j0,1,_,rfl,.inl rfl,R,Dq (by decide +kernel) o aH.refl R fun H1 k1 f1 R1 o1=>?_⟩;unfold Vabldl.letExpr at o1;rw[jc,List.drop_drop] at o1;obtain⟨tk,v,et,_,_⟩:=R1.here;rw[dt et] at o1;refine⟨_,rfl,r,_,_,rfl,R1.obj,rfl,r,dr,l,us,toks,j0+1,4,rfl,by decide,by decide,R1,fun f9 fU=>?_⟩;rw[et] at fU;cases fU
  by_cases tM:tk.kind=4
  ·rw[if_pos tM] at o1 ⊢;intro H2 v k2 f2 R2 hv;have hv:v= .str (strOf tk.text):=hv;subst hv;refine⟨_,rfl,r,_,_,rfl,R2.obj,rfl,r,dr,l,us,toks,j0+1+1,5,_,rfl,.inr rfl,R2,mi (by decide +kernel) o1 (k1.trans k2) R2 fun H3 k3 f3 R3 o3=>?_⟩;have fZ:=((dZ.keep R k1).keep R1 k2).keep R2 k3;refine⟨_,rfl,r,_,_,rfl,R3.obj,rfl,_,rfl,20-n,1,rfl,rfl,_,rfl,r,dr,l,kn,us,toks,j0+1+1+1,ns,ks,(by rw[wg hn];rfl),R3,fZ.less,lr o3 ((k1.trans k2).trans k3) R3 fun q4 H4 v4 j4 AK k4 R4 tW o4=>?_⟩;refine⟨_,rfl,r,_,_,rfl,R4.obj,rfl,r,dr,l,us,toks,j4,1,_,rfl,.inl rfl,R4,Dq (by decide +kernel) o4 (((k1.trans k2).trans k3).trans k4) R4 fun H5 k5 f5 R5 o5=>?_⟩;have qm:=(fZ.keep R3 k4).keep R4 k5;refine⟨_,rfl,r,_,_,rfl,R5.obj,rfl,_,rfl,20-n,1,rfl,rfl,_,rfl,_,rfl,(by show 1<=sizeLine;decide),fun T hT=>?_⟩;have s6:ai H5 (upd H5 T (.tup [.str (strOf tk.text)])):=ai.new hT;refine⟨kn,T,_,_,rfl,rfl,s6 _ _ qm.at_,au,(fun z=>by cases z),?_,fun H7 p7 s7 e7=>?_⟩
   ·rw[List.length_map];have:=qm.gB;exact Nat.le_trans (show ns.length+1<=21 by omega) (by decide)
   have Bj:=s6.trans s7;have R7:=R5.same Bj;have ql:=(((k1.trans k2).trans k3).trans k4).trans k5;have A1:=ql.trans (aH.of Bj);have XJ:Kn H7 p7 (ns++[tk.text]) (tk.text::ks) n:=⟨by rw[e7,show A5 (ns++[tk.text])=A5 ns++[V.str (strOf tk.text)] from List.map_append],fun x=>by
     have:=qm.same x;rw[List.contains_cons,<-this,Bool.eq_iff_iff,Bool.or_eq_true,List.contains_iff_mem,List.contains_iff_mem,List.mem_append,List.mem_singleton,beq_iff_eq];exact Or.comm,by rw[List.length_append];have:=qm.gB;show ns.length+1+n<=20;omega⟩
   refine⟨r,dr,l,p7,us,toks,j4+1,ns++[tk.text],tk.text::ks,(by rw[wg hn];rfl),R7,XJ,lr o5 A1 R7 fun q8 H8 v8 j8 Y0 k8 R8 Xn o8=>?_⟩;refine⟨_,rfl,_,rfl,_,rfl,fun b db hb bC bo=>?_⟩;refine jq (us:=[_,_,_]) rfl hb bC bo fun H9 b' gz tZ cy _ _ e9=>?_;have LU:=A1.trans k8;refine o8 H9 (.ref b') j8 (by omega) (LU.trans (aH.of tZ)) (R8.same tZ) rfl ?_;have ir:=(k1.trans k2).trans k3;have LY:aH r H4 H9:=(k5.trans (aH.of Bj)).trans (k8.trans (aH.of tZ));refine Sh.let_ (fun z=>z (LU.free R8.obj cy)) e9 ?_ ?_
   ·exact aV.keep (fun b ob e nb=>⟨fun z=>nb (bT.keep ir R3.obj z),LY b ob e fun q=>nb (by rw[q];exact fun y=>by rw[R3.obj] at y;cases y)⟩) (fun b xs e=>LY b _ e fun q=>by rw[q,R4.obj] at e;cases e) _ _ _ tW
   ·exact aV.keep (fun b ob e nb=>⟨fun z=>nb (bT.keep A1 R7.obj z),tZ _ _ e⟩) (fun b xs e=>tZ _ _ e) _ _ _ Xn
  ·rw[if_neg tM] at o1 ⊢;have o1:da t r H {kind:=3,place:=(Vabldl.next (toks.drop (j0+1))).place} E:=o1;rw[dt et] at o1;exact o1.keep k1 R1.obj
end
end Bp
namespace Bp
open PySem PySem.Spec PyProof.Rows L2 Bq
variable{K:FG}{mg:Str->Option Value}{w:World}{P:Program}{base:Heap}{cs:Addr}
theorem y0{tc:TT}{t rest:TS}{D:Ends}{σ:L2.St}{H:Hp}(b:Bool)(J:L2.St->Hp->Prop)(h: ∀R:Bool->Hp->Prop,R b H->tc σ H R)(ht:b=true-> ∀N:L2.St->Hp->Prop,(∀σ' H',J σ' H'->N σ' H')->t {D with nx:=N} σ H)(hu:b=false->J σ H)
  (hJ: ∀σ' H',J σ' H'->rest D σ' H'):ff (lP tc t pN) rest D σ H:=
 h _ (bS (fun z=>ht z _ hJ) fun z=>hJ _ _ (hu z))
theorem UY{v:V}{i:Nat}{rest:TS}{D:Ends}{σ:L2.St}{H:Hp}(h:rest D (σ.set i (some v)) H):ff (sM (tC v) (de i)) rest D σ H:=h
theorem u_: ∀wd∈cD,Str.ofString wd=strOf (Vabldl.str wd):=by decide +kernel
section
variable{K:FG}{mg:Str->Option Value}{w:World}{P:Program}{base:Heap}{cs:Addr}{n:Nat}
theorem GB(t:Tx K mg w): ∃(a:Addr)(af:List (Key×V)),mg "CALL_SHAPES"=some (.ref a)/\KD K w a af/\af.map (·.1)=cD.map (fun wd=>(.inr (Str.ofString wd):Key))/\
  ∀wd∈cD,∃sa,bM af (.inr (Str.ofString wd))=some (.ref sa)/\ ∀H:Hp,bu K H sa [.int ((shapeOf wd).1:Int),.int (((shapeOf wd).2.1+1:Nat):Int),.bl (shapeOf wd).2.2]:=by
 obtain⟨a,s0,s1,s2,s3,s4,s5,s6,s7,s8,s9,m,kd,h⟩:=t.Dr;refine⟨a,_,m,kd,rfl,fun wd hw=>?_⟩;simp only [cD,List.mem_cons,List.not_mem_nil,or_false] at hw;rcases hw with rfl |rfl |rfl |rfl |rfl |rfl |rfl |rfl |rfl |rfl
 ·exact⟨s0,by rfl,fun H=>(h H).1⟩
 ·exact⟨s1,by rfl,fun H=>(h H).2.1⟩
 ·exact⟨s2,by rfl,fun H=>(h H).2.2.1⟩
 ·exact⟨s3,by rfl,fun H=>(h H).2.2.2.1⟩
 ·exact⟨s4,by rfl,fun H=>(h H).2.2.2.2.1⟩
 ·exact⟨s5,by rfl,fun H=>(h H).2.2.2.2.2.1⟩
 ·exact⟨s6,by rfl,fun H=>(h H).2.2.2.2.2.2.1⟩
 ·exact⟨s7,by rfl,fun H=>(h H).2.2.2.2.2.2.2.1⟩
 ·exact⟨s8,by rfl,fun H=>(h H).2.2.2.2.2.2.2.2.1⟩
 ·exact⟨s9,by rfl,fun H=>(h H).2.2.2.2.2.2.2.2.2⟩
theorem xY: ∀wd∈cD,(shapeOf wd).1<=2/\(shapeOf wd).2.1<=1:=by decide +kernel
theorem F_{t:Tx K mg w}{r:Addr}{H0 H:Hp}{E:XK}{A B:Type}{G:Vabldl.Got B}{f:B->List VU->Vabldl.Got A}{S:A->List VU->Prop}{S':B->List VU->Prop}{ob:HO}
  (o:cb t r H0 E (Vabldl.andThen G f) S) (k:aH r H0 H) (hr:H r=some ob) (nx: ∀x ts,cb t r H0 E (f x ts) S->S' x ts):cb t r H E G S':=by
 cases G with
 |error e=>exact da.keep (show da t r H0 e E from o) k hr
 |ok x=>exact nx _ _ o
inductive Ie(t:Tx K mg w)(n:Nat)(vs:List V)(H:Hp)(Q:VK)(E:XK):Prop
 |mk(r dr l kn:Addr)(us:List V)(toks:List VU)(j:Nat)(ns ks:List VT)(wd:String)(tk:VU):vs=[.ref r,.int ((20-n:Nat):Int),.ref kn]->bh t r dr l us toks H j->Kn H kn ns ks (n+1)->toks[j]? =some tk->tk.kind=1->tk.text=Vabldl.str wd->wd∈cD->iP t r dr l us toks j H E Q (2*n+1) (qV (Vabldl.expr n) ks wd (toks.drop (j+1)))->Ie t n vs H Q E
theorem QP(t:Tx K mg w)(F:FE P base cs t n)(hn:n<20):aB P w K mg base (aC P w cs) (kE n+2) t.n8.f t.n8.fd ["self","level","known"] (Ie t n):=by
 refine t.n8.F.aJ true l9 (fun vs H Q E h=>?_) (fun ay A outer s H vs Q E hr h=>?_) (hk:=fun _=>by unfold kE;omega)
 ·obtain⟨r,dr,l,kn,us,toks,j,ns,ks,wd,tk,rfl,_⟩:=h;rfl
 ·obtain⟨r,dr,l,kn,us,toks,j0,ns,ks,wd,tk,rfl,R,dZ,et,Xa,jD,c8,o⟩:=h;obtain⟨ca,af,cm,Ar,_,Lb⟩:=GB t;obtain⟨sa,Xs,AW⟩:=Lb wd c8;obtain⟨Mc,Md⟩:=xY wd c8;have Xy:=u_ wd c8;have qg:az 8 _:=hr.mono (by unfold kE;omega);have eI:az 7 _:=hr.mono (by unfold kE;omega);have bB:az 6 _:=hr.mono (by unfold kE;omega);have cP:az 2 _:=hr.mono (by unfold kE;omega);refine⟨_,ak (aT 3 l9.nd (bz (pv 0) t.aP.cl t.dD.me (jS (cs:=cs) t) bB t.dD.b .nil aE.passes (ae aZ ag)))<|
   ak (aT 4 l9.nd (HK (bw (v:= .ref ca) rfl cm rfl) (pv 3) (fun _ _=>rfl)))<|
   ak (bA (bz (pv 0) t.aP.cl t.dA.me (jL (cs:=cs) t) eI t.dA.b .nil aE.passes (ae aZ<|ae aZ ag)))<|
   ak (aT 5 l9.nd (bz (pv 0) t.aP.cl t.nY.me (QV (cs:=cs) t) qg t.nY.b .nil aE.passes (ae (cf gY (pv 4) aM (fun _ _=>rfl)) ag)))<|
   ak (aT 6 l9.nd (bz (pv 0) t.aP.cl t.nX.me (QT t F) hr t.nX.b .nil aE.passes (ae (cf gY (pv 4) aM (fun _ _=>rfl))<|ae (a0 iI (pv 1) aM)<|ae (pv 2) ag)))<|
   ak (aT 7 l9.nd r_)<|
   ak (a9 (PW.pt (mK (c0 (cf gY (pv 4) aM (fun _ _=>rfl))) (mG (c0 (bz (pv 0) t.aP.cl t.fL.me (rm (cs:=cs) t) bB t.fL.b .nil (ax (cs:=cs)) (ae aZ<|ae aZ ag))))))
    (ak (bA (bz (pv 0) t.aP.cl t.dD.me (jS (cs:=cs) t) bB t.dD.b .nil aE.passes (ae aZ ag)))<|
     ao (aT 7 l9.nd (bz (pv 0) t.aP.cl t.dD.me (jS (cs:=cs) t) bB t.dD.b .nil aE.passes (ae aZ ag)))) a_)<|
   ak (bA (bz (pv 0) t.aP.cl t.dA.me (jL (cs:=cs) t) eI t.dA.b .nil aE.passes (ae aZ<|ae aZ ag)))<|
   ao (aD (fO (t.kW.fG rfl) (HE (cs:=cs) t) cP rfl t.aU.m t.kW.b .nil (ax (cs:=cs)) (ae (pv 3)<|ae (pv 5)<|ae (pv 6)<|ae (pv 7) ag))),?_⟩
  refine⟨_,rfl,r,_,_,rfl,R.obj,rfl,r,dr,l,us,toks,j0,1,rfl,by decide,by decide,R,fun f9 fU=>?_⟩;rw[et] at fU;cases fU;rw[if_pos Xa];intro H1 v1 k1 f1 R1 qj;have qj:v1= .str (Str.ofString wd):=by rw[Xy,<-jD];exact qj
  subst qj;refine⟨_,rfl,ca,af,.inr (Str.ofString wd),_,rfl,rfl,Ar,Xs,?_⟩;unfold qV fv at o;refine⟨_,rfl,r,_,_,rfl,R1.obj,rfl,r,dr,l,us,toks,j0+1,5,_,rfl,.inr rfl,R1,mi (by decide +kernel) o k1 R1 fun H2 k2 f2 R2 o2=>?_⟩;have bQ:=k1.trans k2;refine⟨_,rfl,r,_,_,rfl,R2.obj,rfl,_,rfl,sa,_,_,_,rfl,rfl,AW _,at_of (j:=0) rfl rfl,r,dr,l,us,toks,j0+1+1,(shapeOf wd).1,rfl,Mc,R2,F_ o2 bQ R2.obj fun tx ts o3 H3 lt tv j3 YY k3 R3 e3 aW bZ Xx bH=>?_⟩;subst e3;have ir:=bQ.trans k3;have Aa:H lt=none:=bQ.free R2.obj aW;have XU:lt≠r:=fun q=>by rw[q,R.obj] at Aa;cases Aa
  have fZ:=(((dZ.keep R k1).keep R1 k2).keep R2 k3).less;refine⟨_,rfl,r,_,_,rfl,R3.obj,rfl,_,rfl,sa,_,_,_,rfl,rfl,AW _,at_of (j:=1) rfl rfl,_,rfl,20-n,1,rfl,rfl,_,rfl,r,dr,l,kn,us,toks,j3,(shapeOf wd).2.1,ns,ks,(by rw[wg hn];rfl),Md,R3,fZ,F_ o3 ir R3.obj fun qs ts o4 H4 lp pv j4 AK k4 R4 e4 gF WE Xl Uy=>?_⟩;subst e4;have LR:=ir.trans k4;have j_:H lp=none:=ir.free R3.obj gF;have XR:lp≠r:=fun q=>by rw[q,R.obj] at j_;cases j_
  dsimp only [d6,de,Ends.d9];have nr: ∀{H' K8:Hp}{j':Nat},bh t r dr l us toks H' j'->aH r H' K8-> ∀b xs,H' b=some (.tup xs)->K8 b=some (.tup xs):=fun R' k' b xs e=>k' b _ e fun q=>by rw[q,R'.obj] at e;cases e
  refine UY ?_;refine y0 ((shapeOf wd).2.2&&Vabldl.isSign "," (toks.drop j4)) (fun σ' H'=> ∃j' bf,σ'=[some (.ref r),some (.int ((20-n:Nat):Int)),some (.ref kn),some (.str (Str.ofString wd)),some (.ref sa),some (.ref lt),some (.ref lp),some (iQ bf)]/\j4<=j'/\aH r H4 H'/\bh t r dr l us toks H' j'/\(∀l,bf=some l->l<=99)/\((shapeOf wd).2.2=false->bf=none)/\
    cb t r H E (Vabldl.sign ")" (toks.drop j') fun e=> .ok (Bq.ft wd tx qs bf,e)) (fun q ts=> ∀H' v j',j0<j'->aH r H H'->bh t r dr l us toks H' j'->toks.drop j'=ts->aV t (bT H) H' (2*n+1) v q->Q v H')) (fun Rb hR=>?_) (fun z N hN=>?_) (fun z=>?_) ?_
  ·refine⟨_,rfl,sa,_,_,_,rfl,rfl,AW _,at_of (j:=2) rfl rfl,_,rfl,bS (fun q=>?_) fun q=>?_⟩
   ·rw[q,Bool.true_and] at hR;refine⟨_,rfl,r,_,_,rfl,R4.obj,rfl,r,dr,l,us,toks,j4,5,_,rfl,.inr rfl,R4,fun nQ jx=>⟨_,rfl,?_⟩⟩;have:decide (nQ.kind=5/\strOf nQ.text=Str.ofString ",")=Vabldl.isSign "," (toks.drop j4):=by
     rw[Bool.eq_iff_iff,gP,dt jx,show Str.ofString ","=strOf (Vabldl.str ",") by decide +kernel,decide_eq_true_eq];exact⟨fun h=>⟨h.1,jN h.2⟩,fun h=>⟨h.1,by rw[h.2]⟩⟩
    rw[this];exact hR
   ·rw[q,Bool.false_and] at hR;exact hR
  ·rw[Bool.and_eq_true] at z;obtain⟨z1,z2⟩:=z;unfold jU at o4;rw[if_pos ⟨z1,z2⟩,jc,List.drop_drop] at o4;obtain⟨nQ,v5,jx,_,_⟩:=R4.here;have k5:nQ.kind=5:=by have:=(gP.mp z2).1;rw[dt jx] at this;exact this
   refine⟨_,rfl,r,_,_,rfl,R4.obj,rfl,r,dr,l,us,toks,j4,5,rfl,by decide,by decide,R4,fun f9 fU=>?_⟩;rw[jx] at fU;cases fU;rw[if_pos k5];intro H5 Zi k5 f5 R5 _;obtain⟨Bl,v6,wJ,_,_⟩:=R5.here;rw[dt wJ] at o4;refine⟨_,rfl,r,_,_,rfl,R5.obj,rfl,r,dr,l,us,toks,j4+1,2,rfl,by decide,by decide,R5,fun f9 fU=>?_⟩;rw[wJ] at fU;cases fU
   by_cases qc:Bl.kind=2
   ·rw[if_pos qc] at o4 ⊢;intro H6 Ym k6 f6 R6 AY;have AY:Ym= .int (Vabldl.valueOf Bl.text:Nat):=AY;subst AY;exact hN _ _ ⟨j4+1+1,some (Vabldl.valueOf Bl.text),rfl,by omega,k5.trans k6,R6,(fun l e=>by cases e;exact R5.num _ _ wJ qc),(fun e=>by rw[z1] at e;cases e),o4⟩
   ·rw[if_neg qc] at o4 ⊢;have o4:da t r H {kind:=3,place:=(Vabldl.next (toks.drop (j4+1))).place} E:=o4;rw[dt wJ] at o4;exact o4.keep (LR.trans k5) R5.obj
  ·unfold jU at o4;rw[if_neg (by rintro⟨h1,h2⟩;rw[h1,h2] at z;cases z)] at o4;exact⟨j4,none,rfl,Nat.le_refl _,aH.refl,R4,(fun l e=>by cases e),fun _=>rfl,o4⟩
  ·intro σ' H5 hI;refine hide fun _ kG=>?_;obtain⟨j5,bf,rfl,YZ,k5,R5,lm,i6,o5⟩:=hI;refine kG ?_;have ql:=LR.trans k5;refine⟨_,rfl,r,_,_,rfl,R5.obj,rfl,r,dr,l,us,toks,j5,5,_,rfl,.inr rfl,R5,mi (by decide +kernel) o5 ql R5 fun H6 k6 f6 R6 o6=>?_⟩;have LS:=ql.trans k6;refine⟨_,rfl,_,rfl,_,rfl,_,rfl,fun b db hb bC bo=>?_⟩;refine jq (us:=[_,_,_,_]) rfl hb bC bo fun H7 b' gz tY cy _ _ e7=>?_;have w8:aH r H4 H7:=(k5.trans k6).trans (aH.of tY);have LW:aH r H3 H7:=k4.trans w8;refine o6 H7 (.ref b') (j5+1) (by omega) (LS.trans (aH.of tY)) (R6.same tY) rfl ?_;refine Sh.call (fun z=>z (LS.free R6.obj cy)) e7 c8 (fun z=>z Aa) (LW _ _ bZ XU) (Paired.c5 (fun v x g=>g.keep (nr R3 LW)) Xx) (fun z=>z j_) (w8 _ _ WE XR) (Paired.c5 (fun v q g=>?_) Xl) bH Uy lm i6;exact aV.keep (fun b ob e nb=>⟨fun z=>nb (.inl (bT.keep ir R3.obj z)),w8 b ob e fun q=>nb (.inl (by rw[q];exact fun y=>by rw[R3.obj] at y;cases y))⟩) (nr R4 w8) _ _ _ g
end
theorem rG{a k:Nat}(ha:a<=5)(hk:k<=5):decide (V.str (eP a)=V.str (eP k))=decide (a=k):=
 decide_eq_decide.mpr ⟨fun h=>(yH a ha k hk).mp (V.str.inj h),fun h=>by rw[h]⟩
theorem FK(af:List (Key×V))(k:Key):(bM af k).isSome=true↔k∈af.map (·.1):=by
 unfold bM;rw[Option.isSome_map,List.find?_isSome,List.mem_map];constructor
 ·rintro⟨x,h1,h2⟩;exact⟨x,h1,of_decide_eq_true h2⟩
 ·rintro⟨x,h1,h2⟩;exact⟨x,h1,decide_eq_true h2⟩
section
variable{K:FG}{mg:Str->Option Value}{w:World}{P:Program}{base:Heap}{cs:Addr}{n:Nat}
theorem D7{toks:List VU}{j:Nat}{tk:VU}(s:String)(hs:Str.ofString s=strOf (Vabldl.str s))(e:toks[j]? =some tk):decide (tk.kind=1/\strOf tk.text=Str.ofString s)=Vabldl.isWord s (toks.drop j):=by
 rw[Bool.eq_iff_iff,jd,dt e,hs,decide_eq_true_eq];exact⟨fun h=>⟨h.1,jN h.2⟩,fun h=>⟨h.1,by rw[h.2]⟩⟩
theorem OE{toks:List VU}{j:Nat}{tk:VU}(s:String)(hs:Str.ofString s=strOf (Vabldl.str s))(e:toks[j]? =some tk):decide (tk.kind=5/\strOf tk.text=Str.ofString s)=Vabldl.isSign s (toks.drop j):=by
 rw[Bool.eq_iff_iff,gP,dt e,hs,decide_eq_true_eq];exact⟨fun h=>⟨h.1,jN h.2⟩,fun h=>⟨h.1,by rw[h.2]⟩⟩
theorem cb.imp{t:Tx K mg w}{r:Addr}{H:Hp}{E:XK}{A:Type}{g:Vabldl.Got A}{S S':A->List VU->Prop}(o:cb t r H E g S)(h: ∀x ts,S x ts->S' x ts):cb t r H E g S':=by
 cases g with
 |error e=>exact o
 |ok x=>exact h _ _ o
theorem iP.deep{t:Tx K mg w}{r dr l:Addr}{us:List V}{toks:List VU}{j:Nat}{H:Hp}{E:XK}{Q:VK}{d d':Nat}{g:Vabldl.Got Qy}(o:iP t r dr l us toks j H E Q d' g)(h:d<=d'):iP t r dr l us toks j H E Q d g:=
 cb.imp o fun x ts hS H' v j' lt k R e q=>hS H' v j' lt k R e (q.le h)
theorem HH(t:Tx K mg w)(F:FE P base cs t n)(hn:n<20):aB P w K mg base (aC P w cs) (kE n+3) t.kK.f t.kK.fd ["self","level","known"] (mX t (n+1) (20-n) (2*n+1) (Vabldl.term (Vabldl.expr n))):=by
 refine t.kK.F.aJ true BO (fun vs H Q E h=>?_) (fun ay A outer s H vs Q E hr h=>?_) (hk:=fun _=>by unfold kE;omega)
 ·obtain⟨r,dr,l,kn,us,toks,j,ns,ks,rfl,_⟩:=h;rfl
 ·obtain⟨r,dr,l,kn,us,toks,j0,ns,ks,rfl,R,dZ,o⟩:=h;obtain⟨ca,af,cm,Ar,JL,Lb⟩:=GB t;have Xp:az (kE n+1) _:=hr.mono (by omega);have eI:az 7 _:=hr.mono (by unfold kE;omega);have bB:az 6 _:=hr.mono (by unfold kE;omega);have bj:az 5 _:=hr.mono (by unfold kE;omega);have dN:az 4 _:=hr.mono (by unfold kE;omega);have cP:az 2 _:=hr.mono (by unfold kE;omega);refine⟨_,ak (aT 3 BO.nd (cj (pv 0) t.aP.cl t.c9.me (je (cs:=cs) t) bj t.c9.b .nil (ax (cs:=cs))))<|
   ak (a9 (bg dP (aQ (pv 3) rfl) aZ (bc _))
    (ao (aD (fO (t.oE.fG rfl) (PD (cs:=cs) t) cP rfl t.cq.m t.oE.b .nil (ax (cs:=cs)) (ae (bz (pv 0) t.aP.cl t.dD.me (jS (cs:=cs) t) bB t.dD.b .nil aE.passes (ae aZ ag)) ag)))) a_)<|
   ak (a9 (bg dP (aQ (pv 3) rfl) aZ (bc _))
    (ao (aD (bz (pv 0) t.aP.cl t.nU.me (Ow (cs:=cs) t) eI t.nU.b .nil aE.passes (ae (pv 2) ag)))) a_)<|
   ak (a9 (c0 (bz (pv 0) t.aP.cl t.fL.me (rm (cs:=cs) t) bB t.fL.b .nil (ax (cs:=cs)) (ae aZ<|ae aZ ag)))
    (ak (bA (bz (pv 0) t.aP.cl t.dD.me (jS (cs:=cs) t) bB t.dD.b .nil aE.passes (ae aZ ag)))<|
     ao (aD (fO (t.kW.fG rfl) (HE (cs:=cs) t) cP rfl t.aU.m t.kW.b .nil (ax (cs:=cs)) (ae aZ<|ae (dw ag)<|ae (dw ag)<|ae r_ ag)))) a_)<|
   ak (a9 (c0 (bz (pv 0) t.aP.cl t.fL.me (rm (cs:=cs) t) bB t.fL.b .nil (ax (cs:=cs)) (ae aZ<|ae aZ ag)))
    (ao (aD (bz (pv 0) t.aP.cl t.nS.me (PK t F hn) Xp t.nS.b .nil aE.passes (ae (pv 1)<|ae (pv 2) ag)))) a_)<|
   ak (a9 (PW.pt (mK (bg dP (aQ (pv 3) rfl) aZ (bc _)) (mG (bg Jk (aQ (pv 3) rfl) (bw (v:= .ref ca) rfl cm rfl) rfl))))
    (ao (aD (bz (pv 0) t.aP.cl t.n8.me (QP t F hn) hr t.n8.b .nil aE.passes (ae (pv 1)<|ae (pv 2) ag)))) a_)<|
   ao (jg aE rfl (t.gK.d3 rfl) (uv (cs:=cs) t) dN rfl t.eN.m t.gK.b (ax (cs:=cs)) (ae (aQ (pv 3) rfl) ag)),?_⟩
  refine⟨_,rfl,r,_,_,rfl,R.obj,rfl,r,dr,l,us,toks,j0,rfl,R,fun v tk e1 e3=>?_⟩;obtain⟨h0,x,dx,val,e,rfl,e4,e5⟩:=e3;dsimp only [d6,de,Ends.d9];have o:cb t r H E (Vabldl.term (Vabldl.expr n) ks (toks.drop j0)) _:=o;unfold Vabldl.term at o;rw[dt e1,jc] at o;refine aS (decide (tk.kind=3)) (fun Rb hR=>⟨_,rfl,x,_,_,_,_,rfl,e4,t.ba.cl,t.ba.nn,rfl,rfl,_,rfl,by rw[show decide (V.str (eP tk.kind)=V.str (Str.ofString "quoted"))=decide (tk.kind=3) from rG (k:=3) h0 (by decide)];exact hR⟩) (fun z=>?_) fun z=>?_
  ·have hk:=of_decide_eq_true z;rw[if_pos hk] at o;refine⟨_,rfl,r,_,_,rfl,R.obj,rfl,r,dr,l,us,toks,j0,3,rfl,by decide,by decide,R,fun f9 cE=>?_⟩;rw[e1] at cE;cases cE;rw[if_pos hk];intro H1 v1 k1 f1 R1 qj;intro b db hb bC bo;refine jq (us:=[_]) rfl hb bC bo fun H2 b' gz aY cy _ _ e2=>?_;exact o H2 (.ref b') (j0+1) (by omega) (k1.trans (aH.of aY)) (R1.same aY) rfl (aV.le (d:=1) (.lit (fun z=>z (k1.free R1.obj cy)) e2 (cW.keep qj fun b xs e=>aY _ _ e)) (by omega))
  have z3:=of_decide_eq_false z;rw[if_neg z3] at o;refine aS (decide (tk.kind=4)) (fun Rb hR=>⟨_,rfl,x,_,_,_,_,rfl,e4,t.ba.cl,t.ba.nn,rfl,rfl,_,rfl,by rw[show decide (V.str (eP tk.kind)=V.str (Str.ofString "variable"))=decide (tk.kind=4) from rG (k:=4) h0 (by decide)];exact hR⟩) (fun z=>?_) fun z=>?_
  ·have hk:=of_decide_eq_true z;rw[if_pos hk] at o;refine⟨_,rfl,r,_,_,rfl,R.obj,rfl,_,rfl,r,dr,l,kn,us,toks,j0,ns,tk,rfl,R,bW dZ.at_,e1,hk,?_⟩;rw[dZ.same]
   by_cases hc:ks.contains tk.text=true
   ·rw[if_pos hc] at o ⊢;exact fun H' v k R' hq=>o H' v (j0+1) (by omega) k R' rfl (hq.le (by omega))
   ·rw[if_neg hc] at o ⊢;exact o
  have z4:=of_decide_eq_false z;rw[if_neg z4] at o;refine aS (Vabldl.isWord "all" (toks.drop j0)) (fun Rb hR=>⟨_,rfl,r,_,_,rfl,R.obj,rfl,r,dr,l,us,toks,j0,1,_,rfl,.inl rfl,R,fun nQ jx=>⟨_,rfl,by rw[D7 "all" (by decide +kernel) jx];exact hR⟩⟩) (fun z=>?_) fun z=>?_
  ·obtain⟨hk,jD⟩:=jd.mp z;rw[dt e1] at hk jD;rw[if_neg (by intro h;have:=(gP.mp h).1;rw[dt e1,hk] at this;cases this),if_pos hk,DH z,jc] at o;refine⟨_,rfl,r,_,_,rfl,R.obj,rfl,r,dr,l,us,toks,j0,1,rfl,by decide,by decide,R,fun f9 cE=>?_⟩;rw[e1] at cE;cases cE;rw[if_pos hk];intro H1 v1 k1 f1 R1 qj;refine⟨Nat.zero_le _,fun lt aW=>⟨Nat.zero_le _,fun lp gF=>?_⟩⟩;intro b db hb bC bo;refine jq (us:=[_,_,_,_]) rfl hb bC bo fun H2 b' gz aY cy _ _ e2=>?_;have ui:ai H1 H2:=((ai.new aW).trans (ai.new gF)).trans aY;have bQ:=k1.trans (aH.of ui);have XQ:H1 lp=none:=(ai.new aW).free gF;have b0:H1 b'=none:=((ai.new aW).trans (ai.new gF)).free cy;refine o H2 (.ref b') (j0+1) (by omega) bQ (R1.same ui) rfl (aV.le (d:=1) (.all (fun z=>z (k1.free R1.obj b0)) e2 (fun z=>z (k1.free R1.obj XQ)) (aY _ _ au)) (by omega))
  refine aS (Vabldl.isSign "(" (toks.drop j0)) (fun Rb hR=>⟨_,rfl,r,_,_,rfl,R.obj,rfl,r,dr,l,us,toks,j0,5,_,rfl,.inr rfl,R,fun nQ jx=>⟨_,rfl,by rw[OE "(" (by decide +kernel) jx];exact hR⟩⟩) (fun z5=>?_) fun z5=>?_
  ·rw[if_pos z5] at o;refine⟨_,rfl,r,_,_,rfl,R.obj,rfl,_,rfl,_,rfl,r,dr,l,kn,us,toks,j0,ns,ks,rfl,R,dZ,?_⟩;show cb t r H E (Vabldl.sign "(" (toks.drop j0) _) _;unfold Vabldl.sign;rw[if_pos z5,jc];exact iP.deep (d:=2*n) (d':=2*n+1) o (by omega)
  rw[if_neg (by rw[z5];decide)] at o;refine aS (decide (tk.kind=1)&&(bM af (.inr (strOf tk.text))).isSome) (fun Rb hR=>?_) (fun z6=>?_) fun z6=>?_
  ·refine⟨_,rfl,x,_,_,_,_,rfl,e4,t.ba.cl,t.ba.nn,rfl,rfl,_,rfl,?_⟩;rw[show decide (V.str (eP tk.kind)=V.str (Str.ofString "word"))=decide (tk.kind=1) from rG (k:=1) h0 (by decide)];refine bS (fun q=>?_) fun q=>?_
   ·rw[q,Bool.true_and] at hR;have ev:val= .str (strOf tk.text):=by rw[of_decide_eq_true q] at e5;exact e5
    subst ev;exact⟨_,rfl,x,_,_,_,_,rfl,e4,t.ba.cl,t.ba.nn,rfl,ca,af,.inr (strOf tk.text),rfl,rfl,Ar,_,rfl,hR⟩
   ·rw[q,Bool.false_and] at hR;exact hR
  ·rw[Bool.and_eq_true] at z6;have hk:=of_decide_eq_true z6.1;have hm:=(FK af _).mp z6.2;rw[JL] at hm;obtain⟨wd,c8,WH⟩:=List.mem_map.mp hm;have jD:tk.text=Vabldl.str wd:=by
    have:=Sum.inr.inj WH;rw[u_ wd c8] at this;exact(jN this).symm
   rw[if_pos hk,Dk c8 (by rw[dt e1];exact hk) (by rw[dt e1];exact jD),jc] at o;exact⟨_,rfl,r,_,_,rfl,R.obj,rfl,_,rfl,_,rfl,r,dr,l,kn,us,toks,j0,ns,ks,wd,tk,rfl,R,dZ,e1,hk,jD,c8,o⟩
  ·have wr:cb t r H E (Vabldl.wrong (toks.drop j0):Vabldl.Got Qy) (fun q ts=> ∀H' v j',j0<j'->aH r H H'->bh t r dr l us toks H' j'->toks.drop j'=ts->aV t (bT H) H' (2*n+1) v q->Q v H'):=by
    by_cases hk:tk.kind=1
    ·rw[if_pos hk,CW (fun h=>?_) (fun wd c8 h=>?_)] at o
     ·exact o
     ·rw[dt e1] at h;have:=jd.mpr (show(Vabldl.next (toks.drop j0)).kind=1/\(Vabldl.next (toks.drop j0)).text=Vabldl.str "all" from by rw[dt e1];exact⟨hk,h⟩);rw[z] at this;cases this
     ·rw[dt e1] at h;rw[decide_eq_true hk,Bool.true_and] at z6;have:(bM af (.inr (strOf tk.text))).isSome=true:=(FK af _).mpr (by rw[JL];exact List.mem_map.mpr ⟨wd,c8,by rw[u_ wd c8,h]⟩);rw[z6] at this;cases this
    ·rw[if_neg hk] at o;exact o
   have wr:da t r H {kind:=3,place:=(Vabldl.next (toks.drop j0)).place} E:=wr;rw[dt e1] at wr;exact⟨_,rfl,x,_,_,_,_,rfl,e4,t.ba.cl,t.ba.nn,rfl,(by show 1<=sizeLine;decide),fun d hd=>d4 t.eN [(tk.place:Int)] rfl hd wr.plain⟩
end
theorem UM{toks:List VU}{j:Nat}{tk:VU}(e:toks[j]? =some tk):(∀o,Vabldl.opOf (toks.drop j)=some o->tk.kind=5/\o<3/\strOf tk.text=fI o)/\
  (decide (tk.kind=5)&&i4 (.str (strOf tk.text)) [.str "+",.str "-",.str "&"])=(Vabldl.opOf (toks.drop j)).isSome:=by
 have en:=dt e;have sg: ∀s:String,Vabldl.isSign s (toks.drop j)=true↔tk.kind=5/\tk.text=Vabldl.str s:=fun s=>by rw[gP,en]
 have iv:i4 (.str (strOf tk.text)) [.str "+",.str "-",.str "&"]=(decide (tk.text=Vabldl.str "+") || (decide (tk.text=Vabldl.str "-") || decide (tk.text=Vabldl.str "&"))):=by
  show((("+":Str)==strOf tk.text) || ((("-":Str)==strOf tk.text) || ((("&":Str)==strOf tk.text) || false)))=_;have h: ∀s:String,Str.ofString s=strOf (Vabldl.str s)->(Str.ofString s==strOf tk.text)=decide (tk.text=Vabldl.str s):=fun s hs=>by
   rw[hs,Bool.eq_iff_iff,beq_iff_eq,decide_eq_true_eq];exact⟨fun h=>(jN h).symm,fun h=>by rw[h]⟩
  rw[h "+" (by decide +kernel),h "-" (by decide +kernel),h "&" (by decide +kernel),Bool.or_false]
 rw[iv];unfold Vabldl.opOf
 by_cases h5:tk.kind=5
 ·rw[decide_eq_true h5,Bool.true_and]
  by_cases a1:tk.text=Vabldl.str "+"
  ·rw[if_pos ((sg _).mpr ⟨h5,a1⟩),decide_eq_true a1];exact⟨fun o ho=>by cases ho;exact⟨h5,by decide,by rw[a1];decide +kernel⟩,rfl⟩
  ·rw[if_neg (fun h=>a1 ((sg _).mp h).2),decide_eq_false a1,Bool.false_or]
   by_cases a2:tk.text=Vabldl.str "-"
   ·rw[if_pos ((sg _).mpr ⟨h5,a2⟩),decide_eq_true a2];exact⟨fun o ho=>by cases ho;exact⟨h5,by decide,by rw[a2];decide +kernel⟩,rfl⟩
   ·rw[if_neg (fun h=>a2 ((sg _).mp h).2),decide_eq_false a2,Bool.false_or]
    by_cases a3:tk.text=Vabldl.str "&"
    ·rw[if_pos ((sg _).mpr ⟨h5,a3⟩),decide_eq_true a3];exact⟨fun o ho=>by cases ho;exact⟨h5,by decide,by rw[a3];decide +kernel⟩,rfl⟩
    ·rw[if_neg (fun h=>a3 ((sg _).mp h).2),decide_eq_false a3];exact⟨(fun o ho=>by cases ho),rfl⟩
 ·rw[decide_eq_false h5,Bool.false_and,if_neg (fun h=>h5 ((sg _).mp h).1),if_neg (fun h=>h5 ((sg _).mp h).1),if_neg (fun h=>h5 ((sg _).mp h).1)];exact⟨(fun o ho=>by cases ho),rfl⟩
theorem uU(q:Qy)(ss:List (Nat×Qy))(o:Nat)(b:Qy):sumOf q (ss++[(o,b)])= .op o (sumOf q ss) b:=by
 unfold sumOf;rw[List.foldl_append];rfl
section
variable{K:FG}{mg:Str->Option Value}{w:World}{P:Program}{base:Heap}{cs:Addr}{n:Nat}
theorem Tw(t:Tx K mg w)(F:FE P base cs t n)(hn:n<20):aB P w K mg base (aC P w cs) (kE n+4) t.og.f t.og.fd ["self","level","known"] (mX t (n+1) (20-n) (2*n+2) (Vabldl.sum (Vabldl.expr n))):=by
 refine t.og.F.aJ true uq (fun vs H Q E h=>?_) (fun ay A outer s H vs Q E hr h=>?_) (hk:=fun _=>by unfold kE;omega)
 ·obtain⟨r,dr,l,kn,us,toks,j,ns,ks,rfl,_⟩:=h;rfl
 ·obtain⟨r,dr,l,kn,us,toks,j0,ns,ks,rfl,R,dZ,o⟩:=h;obtain⟨ts,es,Xw⟩:=t.Eg;have bB:az 6 _:=hr.mono (by unfold kE;omega);have bj:az 5 _:=hr.mono (by unfold kE;omega);have cP:az 2 _:=hr.mono (by unfold kE;omega);refine⟨_,ak (aT 3 uq.nd (bz (pv 0) t.aP.cl t.kK.me (HH t F hn) hr t.kK.b .nil aE.passes (ae (pv 1)<|ae (pv 2) ag)))<|
   ak (aT 4 uq.nd (dw ag))<|
   ak (jQ eu (PW.pt (mK (bg dP (aQ (cj (pv 0) t.aP.cl t.c9.me (je (cs:=cs) t) bj t.c9.b .nil (ax (cs:=cs))) rfl) aZ (bc _))
     (mG (bg yr (aQ (cj (pv 0) t.aP.cl t.c9.me (je (cs:=cs) t) bj t.c9.b .nil (ax (cs:=cs))) rfl) (bw (v:= .ref ts) rfl es rfl) rfl))))
    (ak (aT 5 uq.nd (bz (pv 0) t.aP.cl t.dD.me (jS (cs:=cs) t) bB t.dD.b .nil aE.passes (ae aZ ag)))<|
     ao (bA (eQ PySem.F.plainAttrs_list PySem.F.slot_list_append PySem.F.type_list_append iD (pv 4) (ae (sh (ae (pv 5)<|ae (bz (pv 0) t.aP.cl t.kK.me (HH t F hn) hr t.kK.b .nil aE.passes (ae (pv 1)<|ae (pv 2) ag)) ag)) ag)))))<|
   ak (a9 (bg dE (bV dH rfl t.dy rfl (ae (pv 4) ag)) aM (bc _)) (ao (aD (pv 3))) a_)<|
   ao (aD (fO (t.oR.fG rfl) (Ts (cs:=cs) t) cP rfl t.bO.m t.oR.b .nil (ax (cs:=cs)) (ae (pv 3)<|ae (pv 4) ag))),?_⟩
  have o:cb t r H E (Vabldl.sum (Vabldl.expr n) ks (toks.drop j0)) (fun q ts=> ∀H' v j',j0<j'->aH r H H'->bh t r dr l us toks H' j'->toks.drop j'=ts->aV t (bT H) H' (2*n+2) v q->Q v H'):=o;unfold Vabldl.sum at o;refine⟨_,rfl,r,_,_,rfl,R.obj,rfl,_,rfl,_,rfl,r,dr,l,kn,us,toks,j0,ns,ks,rfl,R,dZ,lr o aH.refl R fun q1 H1 v1 j1 tL k1 R1 tV o1=>?_⟩;refine⟨Nat.zero_le _,fun ls ny=>?_⟩;have sD:H ls=none:=k1.free R1.obj ny;have jC:ls≠r:=fun q=>by rw[q,R.obj] at sD;cases sD
  have tQ:ls≠l:=fun q=>by have:=R.lst;rw[<-q,sD] at this;cases this
  have A3:=dZ.keep R k1;have fresh:aV t (fun b=>bT H b∨b=ls) (upd H1 ls (.lst [])) (2*n+1) v1 q1:=aV.keep (fun b ob e nb=>⟨fun z=>z.elim nb (fun z=>by rw[z,ny] at e;cases e),by rw[aj (aR e ny)];exact e⟩) (fun b xs e=>by rw[aj (aR e ny)];exact e) _ _ _ tV;refine⟨fun kk σ H'=> ∃v5,σ=[some (.ref r),some (.int ((20-n:Nat):Int)),some (.ref kn),some v1,some (.ref ls),v5]/\aH r H H'/\ ∃j sv ss m,j0<j/\bh t r dr l us toks H' j/\Kn H' kn ns ks (n+1)/\H' ls=some (.lst sv)/\aV t (fun b=>bT H b∨b=ls) H' (2*n+1) v1 q1/\Paired (pz H' (aV t (fun b=>bT H b∨b=ls) H' (2*n+1))) sv ss/\sv.length<=j/\toks.length-j<m/\
    cb t r H E (Vabldl.more (Vabldl.expr n) ks m (sumOf q1 ss) (toks.drop j)) (fun q ts=> ∀H' v j',j0<j'->aH r H H'->bh t r dr l us toks H' j'->toks.drop j'=ts->aV t (bT H) H' (2*n+2) v q->Q v H')/\kk=toks.length-j,
   ⟨_,none,rfl,k1.trans (aH.of (ai.new ny)),j1,[],[],_,tL,R1.same (ai.new ny),A3.keep R1 (aH.of (ai.new ny)),au,fresh,.nil,Nat.zero_le _,(by rw[List.length_drop];exact Nat.lt_succ_self _),o1,rfl⟩,?_⟩
  intro kk σ H2 hI;refine hide fun _ kG=>?_;obtain⟨v5,rfl,k2,j,sv,ss,m,hj,R2,A4,e2,kx,hp,bH,Yq,o2,rfl⟩:=hI;refine kG ?_;have gD:sv.length=ss.length:=Paired.length hp;obtain⟨tk,vt,et,YM,Y6⟩:=R2.here;obtain⟨X5,X6⟩:=UM et;refine rP (Vabldl.opOf (toks.drop j)).isSome (fun Rb hR=>?_) (fun z=>?_) fun z=>?_
  ·rw[<-X6] at hR;refine⟨_,rfl,r,_,_,rfl,R2.obj,rfl,r,dr,l,us,toks,j,rfl,R2,fun v f9 cE e3=>?_⟩;rw[et] at cE;cases cE;obtain⟨h0,x,dx,val,e,rfl,e4,e5⟩:=e3;refine⟨x,_,_,_,_,rfl,e4,t.ba.cl,t.ba.nn,rfl,rfl,_,rfl,?_⟩;rw[show decide (V.str (eP tk.kind)=V.str (Str.ofString "sign"))=decide (tk.kind=5) from rG (k:=5) h0 (by decide)];refine bS (fun q=>?_) fun q=>?_
   ·rw[q,Bool.true_and] at hR;refine⟨_,rfl,r,_,_,rfl,R2.obj,rfl,r,dr,l,us,toks,j,rfl,R2,fun v f9 cE e3=>?_⟩;rw[et] at cE;cases cE;obtain⟨h0,x,dx,val,e,rfl,e4,e5⟩:=e3;have ev:val= .str (strOf tk.text):=by rw[of_decide_eq_true q] at e5;exact e5
    subst ev;exact⟨x,_,_,_,_,rfl,e4,t.ba.cl,t.ba.nn,rfl,ts,_,rfl,.inr (Xw _),rfl,rfl,_,rfl,hR⟩
   ·rw[q,Bool.false_and] at hR;exact hR
  ·obtain⟨op,wY⟩:=Option.isSome_iff_exists.mp z;obtain⟨AM,Xi,jD⟩:=X5 op wY;obtain⟨m',rfl⟩: ∃m',m=m'+1:=⟨m-1,by omega⟩;have L8:cb t r H E (Vabldl.andThen (Vabldl.term (Vabldl.expr n) ks ((toks.drop j).drop 1)) fun b rr=>Vabldl.more (Vabldl.expr n) ks m' (.op op (sumOf q1 ss) b) rr) (fun q ts=> ∀H' v j',j0<j'->aH r H H'->bh t r dr l us toks H' j'->toks.drop j'=ts->aV t (bT H) H' (2*n+2) v q->Q v H'):=by
    have:Vabldl.more (Vabldl.expr n) ks (m'+1) (sumOf q1 ss) (toks.drop j)=Vabldl.andThen (Vabldl.term (Vabldl.expr n) ks ((toks.drop j).drop 1)) fun b rr=>Vabldl.more (Vabldl.expr n) ks m' (.op op (sumOf q1 ss) b) rr:=by
     show(match Vabldl.opOf (toks.drop j) with |none=>_ |some o=>_)=_;rw[wY]
    rw[<-this];exact o2
   rw[jc] at L8;refine⟨fun σ' H'=> ∃v5,σ'=[some (.ref r),some (.int ((20-n:Nat):Int)),some (.ref kn),some v1,some (.ref ls),v5]/\aH r H H'/\ ∃j' sv ss m,j<j'/\bh t r dr l us toks H' j'/\Kn H' kn ns ks (n+1)/\H' ls=some (.lst sv)/\aV t (fun b=>bT H b∨b=ls) H' (2*n+1) v1 q1/\Paired (pz H' (aV t (fun b=>bT H b∨b=ls) H' (2*n+1))) sv ss/\sv.length<=j'/\toks.length-j'<m/\
    cb t r H E (Vabldl.more (Vabldl.expr n) ks m (sumOf q1 ss) (toks.drop j')) (fun q ts=> ∀H' v j',j0<j'->aH r H H'->bh t r dr l us toks H' j'->toks.drop j'=ts->aV t (bT H) H' (2*n+2) v q->Q v H'),?_,?_⟩
   ·intro σ' H' hI;refine hide fun _ kG=>?_;obtain⟨v5,rfl,h1,j',sv,ss,m,h2,h3,h4,h5,h6,h7,h8,h9,Lo⟩:=hI;refine kG ?_;have:=R2.lt;exact⟨_,by omega,v5,rfl,h1,j',sv,ss,m,by omega,h3,h4,h5,h6,h7,h8,h9,Lo,rfl⟩
   refine⟨_,rfl,r,_,_,rfl,R2.obj,rfl,r,dr,l,us,toks,j,5,rfl,by decide,by decide,R2,fun f9 fU=>?_⟩;rw[et] at fU;cases fU;rw[if_pos AM];intro H3 v3 k3 f3 R3 AX;have AX:v3= .str (fI op):=by rw[<-jD];exact AX
   subst AX;have e3:H3 ls=some (.lst sv):=k3 _ _ e2 jC;have fZ:=A4.keep R2 k3;refine⟨_,rfl,.inl ⟨rfl,_,aA.of e3⟩,_,rfl,_,rfl,r,_,_,rfl,R3.obj,rfl,_,rfl,_,rfl,r,dr,l,kn,us,toks,j+1,ns,ks,rfl,R3,fZ,lr L8 (k2.trans k3) R3 fun q4 H4 v4 j4 AK k4 R4 tW o4=>?_⟩;have e4:H4 ls=some (.lst sv):=k4 _ _ e3 jC;refine⟨(by show 2<=sizeLine;decide),fun T hT=>?_⟩;have s5:ai H4 (upd H4 T (.tup [.str (fI op),v4])):=ai.new hT;have WR:T≠ls:=fun q=>by rw[q,e4] at hT;cases hT
   have e5:(upd H4 T (.tup [.str (fI op),v4])) ls=some (.lst sv):=s5 _ _ e4;have Zf:=R4.lt;have Zg:=R4.sz;refine⟨ls,_,_,rfl,rfl,e5,Nat.lt_of_le_of_lt (show sv.length<=1025 by omega) (by decide),?_⟩;generalize hH5:upd H4 T (.tup [.str (fI op),v4])=H5 at*;have eT:H5 T=some (.tup [.str (fI op),v4]):=by rw[<-hH5];exact au
   have fm:dh H5 (upd H5 ls (.lst (sv++[.ref T]))):=dh.lst e5;have R5:=R4.same s5;have LV:aH r H3 H5:=k4.trans (aH.of s5);have A2:aH r H2 H5:=k3.trans LV;have ql:aH r H H5:=k2.trans A2;have kr:aH r H (upd H5 ls (.lst (sv++[.ref T]))):=fun b ob e nb=>by
    rw[aj (aR e sD)];exact ql b ob e nb
   have R6:bh t r dr l us toks (upd H5 ls (.lst (sv++[.ref T]))) j4:=⟨fm.1 _ _ _ _ R5.obj,by rw[aj (Ne.symm tQ)];exact R5.lst,R5.tok.hX fm,R5.lt,R5.fin,R5.num,R5.sz⟩;have XI:Kn (upd H5 ls (.lst (sv++[.ref T]))) kn ns ks (n+1):=⟨fm.2 _ _ (fZ.keep R3 LV).at_,fZ.same,fZ.gB⟩;have iu: ∀b,(bT H b∨b=ls)->bT H3 b:=fun b z=>by
    rcases z with z |z
    ·exact bT.keep (k2.trans k3) R3.obj z
    ·rw[z];exact fun y=>by rw[e3] at y;cases y
   have K6: ∀b xs,H2 b=some (.tup xs)->(upd H5 ls (.lst (sv++[.ref T]))) b=some (.tup xs):=fun b xs e=>by
    have nG:b≠ls:=fun q=>by rw[q,e2] at e;cases e
    have nH:b≠r:=fun q=>by rw[q,R2.obj] at e;cases e
    rw[aj nG];exact A2 b _ e nH
   have KG: ∀v q,aV t (fun b=>bT H b∨b=ls) H2 (2*n+1) v q->aV t (fun b=>bT H b∨b=ls) (upd H5 ls (.lst (sv++[.ref T]))) (2*n+1) v q:=fun v q g=>by
    refine aV.keep (fun b ob e nb=>⟨nb,?_⟩) K6 _ _ _ g;have nG:b≠ls:=fun q=>nb (.inr q);have nH:b≠r:=fun q=>nb (.inl (by rw[q];exact fun y=>by rw[R.obj] at y;cases y));rw[aj nG];exact A2 b ob e nH
   refine⟨_,rfl,kr,j4,sv++[.ref T],ss++[(op,q4)],m',by omega,R6,XI,au,KG _ _ kx,Paired.snoc (Paired.c5 (fun v q g=>?_) hp) ?_,by rw[List.length_append];show sv.length+1<=j4;omega,by omega,by rw[uU];exact o4⟩
   ·obtain⟨T',u,g1,g2,g3,g4⟩:=g;exact⟨T',u,g1,K6 _ _ g2,g3,KG _ _ g4⟩
   ·refine⟨T,v4,rfl,fm.2 _ _ eT,Xi,aV.keep (fun b ob e nb=>⟨fun z=>nb (iu b z),?_⟩) (fun b xs e=>fm.2 b xs (s5 _ _ e)) _ _ _ tW⟩;rw[aj (fun q=>nb (iu b (.inr q)))];exact s5 _ _ e
  ·have nz:Vabldl.opOf (toks.drop j)=none:=by
    cases h:Vabldl.opOf (toks.drop j) with
    |none=>rfl
    |some x=>rw[h] at z;cases z
   obtain⟨m',rfl⟩: ∃m',m=m'+1:=⟨m-1,by omega⟩;have o3: ∀H' v j',j0<j'->aH r H H'->bh t r dr l us toks H' j'->toks.drop j'=toks.drop j->aV t (bT H) H' (2*n+2) v (sumOf q1 ss)->Q v H':=by
    have:Vabldl.more (Vabldl.expr n) ks (m'+1) (sumOf q1 ss) (toks.drop j)= .ok (sumOf q1 ss,toks.drop j):=by
     show(match Vabldl.opOf (toks.drop j) with |none=>_ |some o=>_)=_;rw[nz]
    rw[this] at o2;exact o2
   dsimp only [Ends.d9];refine aS (decide (sv.length=0)) (fun Rb hR=>⟨_,rfl,ls,_,rfl,.inl (aA.of e2),sv.length,0,rfl,rfl,_,rfl,hR⟩) (fun z=>?_) fun z=>?_
   ·have:ss=[]:=List.eq_nil_of_length_eq_zero (by rw[<-gD];exact of_decide_eq_true z);subst this;exact⟨_,rfl,o3 H2 v1 j hj k2 R2 rfl ((kx.weak fun b h=> .inl h).le (by omega))⟩
   ·have bo:ss≠[]:=fun h=>by rw[h] at gD;exact of_decide_eq_false z gD
    refine⟨_,rfl,_,rfl,fun b db hb bC VC=>?_⟩;refine jq (us:=[_,_]) rfl hb bC VC fun H3 b' gz c7 cy _ _ e3=>?_;refine o3 H3 (.ref b') j hj (k2.trans (aH.of c7)) (R2.same c7) rfl ?_;exact Sh.sum (fun z=>z (k2.free R2.obj cy)) e3 (fun z=>z sD) (c7 _ _ e2) bo ((kx.weak fun b h=> .inl h).same c7) (Paired.c5 (fun v q ⟨T',u,g1,g2,g3,g4⟩=>⟨T',u,g1,c7 _ _ g2,g3,(g4.weak fun b h=> .inl h).same c7⟩) hp)
end
theorem Jn{k:Nat}{w:VT}{p:Nat}{r:Except Vabldl.Fault (List VU)}{l:List VU}(h:Vabldl.put k w p r= .ok l): ∃l',r= .ok l'/\l={kind:=k,text:=w,place:=p}::l':=by
 cases r with
 |error x=>cases h
 |ok l'=>cases h;exact⟨l',rfl,rfl⟩
structure vo(tk:VU):Prop where
 num:tk.kind=2->Vabldl.valueOf tk.text<=99
 Mb:tk.kind=3->tk.text.length<=40
 var:tk.kind=4->tk.text.length<=16
theorem Je{f:Nat->Bool}: ∀{l:List Nat}{x:Nat},x∈l.takeWhile f->f x=true
 |a::l,x,h=>by
  rw[List.takeWhile_cons] at h
  split at h
  ·rename_i ha
   rcases List.mem_cons.mp h with rfl |h
   ·exact ha
   ·exact Je h
  ·cases h
theorem Rp{l:List Nat}(h:l.length<=2)(hd: ∀c∈l,Vabldl.digit c=true):Vabldl.valueOf l<=99:=by
 have dg: ∀c,Vabldl.digit c=true->c-48<=9:=fun c hc=>by
  unfold Vabldl.digit at hc;rw[Bool.and_eq_true] at hc;have:=of_decide_eq_true hc.2;omega
 match l,h with
 |[],_=>decide
 |[a],_=>
  have:=dg a (hd a (by simp));show 10*0+(a-48)<=99;omega
 |[a,b],_=>
  have h1:=dg a (hd a (by simp));have h2:=dg b (hd b (by simp));show 10*(10*0+(a-48))+(b-48)<=99;omega
 |_::_::_::_,h=>exact absurd h (by simp)
theorem xZ(whole:Nat): ∀(n:Nat)(t:VT)(l:List VU),Vabldl.cutIn whole n t= .ok l-> ∀tk∈l,vo tk
 |0,t,l,h=>by cases h
 |n+1,[],l,h=>by
  cases h;intro tk eV;rw[List.mem_singleton] at eV;subst eV;exact⟨fun h=>(by cases h),fun h=>(by cases h),fun h=>(by cases h)⟩
 |n+1,c::r,l,h=>by
  unfold Vabldl.cutIn at h;dsimp only at h;have ih:=xZ whole n;have step: ∀{k:Nat}{w:VT}{p:Nat}{rr:VT},vo {kind:=k,text:=w,place:=p}->Vabldl.put k w p (Vabldl.cutIn whole n rr)= .ok l-> ∀tk∈l,vo tk:=fun g hp tk eV=>by
   obtain⟨l',e1,rfl⟩:=Jn hp;rcases List.mem_cons.mp eV with rfl |eV
   ·exact g
   ·exact ih _ _ e1 tk eV
  split at h
  ·exact ih _ _ h
  ·split at h
   ·split at h
    ·cases h
    ·exact step ⟨fun h=>(by cases h),fun h=>(by cases h),fun h=>(by cases h)⟩ h
   ·split at h
    ·split at h
     ·cases h
     ·rename_i hn
      refine step ⟨fun _=>Rp (Nat.le_of_not_lt fun q=>hn (.inl q)) fun x hx=>Je (f:=Vabldl.digit) (l:=c::r) hx,fun h=>(by cases h),fun h=>(by cases h)⟩ h
    ·split at h
     ·split at h
      ·cases h
      ·rename_i hn
       exact step ⟨fun h=>(by cases h),fun h=>(by cases h),fun _=>Nat.le_of_not_lt fun q=>hn (.inr q)⟩ h
     ·split at h
      ·split at h
       ·cases h
       ·rename_i hn
        exact step ⟨fun h=>(by cases h),fun _=>Nat.le_of_not_lt fun q=>hn (.inr (.inl q)),fun h=>(by cases h)⟩ h
      ·split at h
       ·exact step ⟨fun h=>(by cases h),fun h=>(by cases h),fun h=>(by cases h)⟩ h
       ·cases h
theorem RP(n:Nat):kE (n+1)=kE n+5:=by unfold kE;omega
def lu(ts:List VU):Vabldl.Got Qy:=Vabldl.andThen (Vabldl.expr 20 [] ts) fun q r=>if(Vabldl.next r).kind=0 then .ok (q,r) else .error {kind:=3,place:=(Vabldl.next r).place}
theorem QQ(t:Tx K mg w):FE P base cs t 0:=by
 show aB P w K mg base (aC P w cs) (9+1) _ _ _ _;refine t.eM.F.aJ true BN (fun vs H Q E h=>?_) (fun ay A outer s H vs Q E hr h=>?_)
 ·obtain⟨r,dr,l,kn,us,toks,j,ns,ks,rfl,_⟩:=h;rfl
 ·obtain⟨r,dr,l,kn,us,toks,j0,ns,ks,rfl,R,dZ,o⟩:=h;obtain⟨td,ed⟩:=t.xB;have bj:az 5 _:=hr.mono (by decide);have dN:az 4 _:=hr.mono (by decide);refine⟨_,ak (a9 (bg pD (pv 1) (bw (v:= .int 20) rfl ed ⟨_,rfl⟩) (bc _))
    (ao (jg aE rfl (t.oh.d3 rfl) (NL (cs:=cs) t) dN rfl t.iA.m t.oh.b (ax (cs:=cs)) (ae (aQ (cj (pv 0) t.aP.cl t.c9.me (je (cs:=cs) t) bj t.c9.b .nil (ax (cs:=cs))) rfl) ag))) a_)<|yw,?_⟩
  refine aS true (fun Rb hR=>⟨_,rfl,21,20,rfl,rfl,_,rfl,hR⟩) (fun z=>?_) fun z=>by cases z
  refine⟨_,rfl,r,_,_,rfl,R.obj,rfl,r,dr,l,us,toks,j0,rfl,R,fun v tk e1 e3=>?_⟩;obtain⟨h0,x,dx,val,e,rfl,e4,e5⟩:=e3;have o:da t r H {kind:=4,place:=(Vabldl.next (toks.drop j0)).place} E:=o;rw[dt e1] at o;exact⟨x,_,_,_,_,rfl,e4,t.ba.cl,t.ba.nn,rfl,(by show 1<=sizeLine;decide),fun d hd=>d4 t.iA [(tk.place:Int)] rfl hd o.plain⟩
theorem QR(t:Tx K mg w){n:Nat}(F:FE P base cs t n)(hn:n<20):FE P base cs t (n+1):=by
 show aB P w K mg base (aC P w cs) (kE (n+1)) _ _ _ (mX t (n+1) (21-(n+1)) (2*(n+1)) (Vabldl.expr (n+1)));rw[RP,show 21-(n+1)=20-n by omega,show 2*(n+1)=2*n+2 by omega];refine t.eM.F.aJ true BN (fun vs H Q E h=>?_) (fun ay A outer s H vs Q E hr h=>?_) (hk:=fun _=>by unfold kE;omega)
 ·obtain⟨r,dr,l,kn,us,toks,j,ns,ks,rfl,_⟩:=h;rfl
 ·obtain⟨r,dr,l,kn,us,toks,j0,ns,ks,rfl,R,dZ,o⟩:=h;obtain⟨td,ed⟩:=t.xB;have nF:az (kE n+1) _:=hr.mono (by omega);have bB:az 6 _:=hr.mono (by unfold kE;omega);refine⟨_,ak (a9 (bg pD (pv 1) (bw (v:= .int 20) rfl ed ⟨_,rfl⟩) (bc _)) yw a_)<|
   ak (a9 (c0 (bz (pv 0) t.aP.cl t.fL.me (rm (cs:=cs) t) bB t.fL.b .nil (ax (cs:=cs)) (ae aZ<|ae aZ ag)))
    (ao (aD (bz (pv 0) t.aP.cl t.oa.me (Tv t F hn) nF t.oa.b .nil aE.passes (ae (pv 1)<|ae (pv 2) ag)))) a_)<|
   ao (aD (bz (pv 0) t.aP.cl t.og.me (Tw t F hn) hr t.og.b .nil aE.passes (ae (pv 1)<|ae (pv 2) ag))),?_⟩
  have o:iP t r dr l us toks j0 H E Q (2*n+2) (if Vabldl.isWord "let" (toks.drop j0)=true then Vabldl.letExpr (Vabldl.expr n) ks (toks.drop j0) else Vabldl.sum (Vabldl.expr n) ks (toks.drop j0)):=o;refine aS false (fun Rb hR=>⟨_,rfl,20-n,20,rfl,rfl,_,rfl,by rw[decide_eq_false (by omega)];exact hR⟩) (fun z=>by cases z) fun _=>?_;refine aS (Vabldl.isWord "let" (toks.drop j0)) (fun Rb hR=>⟨_,rfl,r,_,_,rfl,R.obj,rfl,r,dr,l,us,toks,j0,1,_,rfl,.inl rfl,R,fun nQ jx=>⟨_,rfl,by rw[D7 "let" (by decide +kernel) jx];exact hR⟩⟩) (fun z=>?_) fun z=>?_
  ·rw[if_pos z] at o;refine⟨_,rfl,r,_,_,rfl,R.obj,rfl,_,rfl,_,rfl,r,dr,l,kn,us,toks,j0,ns,ks,rfl,R,dZ,?_⟩;show iP t r dr l us toks j0 H E Q (2*n+1) (Vabldl.word "let" (toks.drop j0) fun _=>Vabldl.letExpr (Vabldl.expr n) ks (toks.drop j0));unfold Vabldl.word;rw[if_pos z];exact iP.deep o (by omega)
  ·rw[if_neg (by rw[z];decide)] at o;exact⟨_,rfl,r,_,_,rfl,R.obj,rfl,_,rfl,_,rfl,r,dr,l,kn,us,toks,j0,ns,ks,rfl,R,dZ,o⟩
theorem HG(t:Tx K mg w): ∀n,n<=20->FE P base cs t n
 |0,_=>QQ t
 |n+1,h=>QR t (HG t n (by omega)) (by omega)
inductive Iq(t:Tx K mg w)(vs:List V)(H:Hp)(Q:VK)(E:XK):Prop
 |mk(r dr l:Addr)(us:List V)(toks:List VU):vs=[.ref r]->bh t r dr l us toks H 0->(cb t r H E (lu toks) fun q ts=> ∀H' v,aH r H H'->aV t (bT H) H' 40 v q->Q v H')->Iq t vs H Q E
theorem QX(t:Tx K mg w):aB P w K mg base (aC P w cs) 111 t.nZ.f t.nZ.fd ["self"] (Iq t):=by
 refine t.nZ.F.aJ true BF (fun vs H Q E h=>?_) (fun ay A outer s H vs Q E hr h=>?_)
 ·obtain⟨r,dr,l,us,toks,rfl,_⟩:=h;rfl
 ·obtain⟨r,dr,l,us,toks,rfl,R,o⟩:=h;have bj:az 5 _:=hr.mono (by decide);have dN:az 4 _:=hr.mono (by decide);refine⟨_,ak (aT 1 BF.nd (bz (pv 0) t.aP.cl t.eM.me (HG t 20 (Nat.le_refl _)) hr t.eM.b .nil aE.passes (ae aM<|ae (sh ag) ag)))<|
   ak (a9 (bg zJ (aQ (cj (pv 0) t.aP.cl t.c9.me (je (cs:=cs) t) bj t.c9.b .nil (ax (cs:=cs))) rfl) aZ (bc _))
    (ao (jg aE rfl (t.gK.d3 rfl) (uv (cs:=cs) t) dN rfl t.eN.m t.gK.b (ax (cs:=cs)) (ae (aQ (cj (pv 0) t.aP.cl t.c9.me (je (cs:=cs) t) bj t.c9.b .nil (ax (cs:=cs))) rfl) ag))) a_)<|
   ao (aD (pv 1)),?_⟩
  refine⟨_,rfl,r,_,_,rfl,R.obj,rfl,Nat.zero_le _,fun kn AN=>?_⟩;have s1:ai H (upd H kn (.tup [])):=ai.new AN;have R1:=R.same s1;have o:cb t r H E (Vabldl.andThen (Vabldl.expr 20 [] (toks.drop 0)) fun q r=>if(Vabldl.next r).kind=0 then .ok (q,r) else .error {kind:=3,place:=(Vabldl.next r).place}) _:=o;refine⟨r,dr,l,kn,us,toks,0,[],[],rfl,R1,⟨au,fun x=>rfl,by decide⟩,lr o (aH.of s1) R1 fun q2 H2 v2 j2 LB k2 R2 kx o2=>?_⟩;obtain⟨tk,v,et,_,_⟩:=R2.here;rw[dt et] at o2;have bQ:=(aH.of (r:=r) s1).trans k2;dsimp only [d6,de,Ends.d9];refine aS (decide (tk.kind≠0)) (fun Rb hR=>?_) (fun z=>?_) fun z=>?_
  ·refine⟨_,rfl,r,_,_,rfl,R2.obj,rfl,r,dr,l,us,toks,j2,rfl,R2,fun v f9 cE e3=>?_⟩;rw[et] at cE;cases cE;obtain⟨h0,x,dx,val,e,rfl,e4,e5⟩:=e3;refine⟨x,_,_,_,_,rfl,e4,t.ba.cl,t.ba.nn,rfl,rfl,_,rfl,?_⟩;rw[show decide (V.str (eP tk.kind)=V.str (Str.ofString "end"))=decide (tk.kind=0) from rG (k:=0) h0 (by decide),<-decide_not];exact hR
  ·have hk:=of_decide_eq_true z;rw[if_neg hk] at o2;have o2:da t r H {kind:=3,place:=tk.place} E:=o2;refine⟨_,rfl,r,_,_,rfl,R2.obj,rfl,r,dr,l,us,toks,j2,rfl,R2,fun v f9 cE e3=>?_⟩;rw[et] at cE;cases cE;obtain⟨h0,x,dx,val,e,rfl,e4,e5⟩:=e3;exact⟨x,_,_,_,_,rfl,e4,t.ba.cl,t.ba.nn,rfl,(by show 1<=sizeLine;decide),fun d hd=>d4 t.eN [(tk.place:Int)] rfl hd (o2.keep bQ R2.obj).plain⟩
  ·have hk:tk.kind=0:=Decidable.byContradiction (of_decide_eq_false z);rw[if_pos hk] at o2;exact⟨_,rfl,o2 H2 v2 bQ (kx.weak fun b h=>bT.keep (aH.of (r:=r) s1) R1.obj h)⟩
inductive zb(t:Tx K mg w)(vs:List V)(H:Hp)(Q:VK)(E:XK):Prop
 |mk(a:Addr)(x:VT):vs=[.ref a]->H a=some (.tup (nums x))->(match Vabldl.read x with
 | .error e=>Throws H (lK t e.kind) (dS (-10-(e.kind:Int)) (e.place:Int)) E
 | .ok q=> ∀H' v,ai H H'->aV t (bT H) H' 40 v q->Q v H')->zb t vs H Q E
theorem Fb{x:VT}{e:Vabldl.Fault}(h: ¬1024<x.length)(hc:Vabldl.cut x= .error e):Vabldl.read x= .error e:=by
 unfold Vabldl.read;rw[if_neg (show ¬Vabldl.MOST<x.length from h),hc]
theorem Gg{x:VT}{ts:List VU}{e:Vabldl.Fault}(h: ¬1024<x.length)(hc:Vabldl.cut x= .ok ts)(hg:lu ts= .error e):Vabldl.read x= .error e:=by
 unfold Vabldl.read;rw[if_neg (show ¬Vabldl.MOST<x.length from h),hc];show(match Vabldl.expr 20 [] ts with | .error e=>Except.error e | .ok x=>if(Vabldl.next x.2).kind=0 then Except.ok x.1 else Except.error {kind:=3,place:=(Vabldl.next x.2).place})=_;unfold lu at hg;cases he:Vabldl.expr 20 [] ts with
 |error e'=>rw[he] at hg;cases hg;rfl
 |ok y=>
  rw[he] at hg;have hg:(if(Vabldl.next y.2).kind=0 then .ok (y.1,y.2) else .error {kind:=3,place:=(Vabldl.next y.2).place}:Vabldl.Got Qy)= .error e:=hg;show(if(Vabldl.next y.2).kind=0 then Except.ok y.1 else .error {kind:=3,place:=(Vabldl.next y.2).place}:Except Vabldl.Fault Qy)=_
  by_cases h:(Vabldl.next y.2).kind=0
  ·rw[if_pos h] at hg;cases hg
  ·rw[if_neg h] at hg ⊢;cases hg;rfl
theorem Gh{x:VT}{ts:List VU}{y:Qy×List VU}(h: ¬1024<x.length)(hc:Vabldl.cut x= .ok ts)(hg:lu ts= .ok y):Vabldl.read x= .ok y.1:=by
 unfold Vabldl.read;rw[if_neg (show ¬Vabldl.MOST<x.length from h),hc];show(match Vabldl.expr 20 [] ts with | .error e=>Except.error e | .ok x=>if(Vabldl.next x.2).kind=0 then Except.ok x.1 else Except.error {kind:=3,place:=(Vabldl.next x.2).place})=_;unfold lu at hg;cases he:Vabldl.expr 20 [] ts with
 |error e'=>rw[he] at hg;cases hg
 |ok z=>
  rw[he] at hg;have hg:(if(Vabldl.next z.2).kind=0 then .ok (z.1,z.2) else .error {kind:=3,place:=(Vabldl.next z.2).place}:Vabldl.Got Qy)= .ok y:=hg;show(if(Vabldl.next z.2).kind=0 then Except.ok z.1 else .error {kind:=3,place:=(Vabldl.next z.2).place}:Except Vabldl.Fault Qy)=_
  by_cases h:(Vabldl.next z.2).kind=0
  ·rw[if_pos h] at hg ⊢;cases hg;rfl
  ·rw[if_neg h] at hg;cases hg
theorem qK(t:Tx K mg w):aB P w K mg base (aC P w cs) 112 t.jM.f t.jM.fd ["text"] (zb t):=by
 refine t.jM.F.aJ true Nz (fun vs H Q E h=>?_) (fun ay A outer s H vs Q E hr h=>?_)
 ·obtain⟨a,x,rfl,_⟩:=h;rfl
 ·obtain⟨a,x,rfl,ha,o⟩:=h;obtain⟨tl,el⟩:=t.CI;have AU:az 9 _:=hr.mono (by decide);have dN:az 4 _:=hr.mono (by decide);have cP:az 2 _:=hr.mono (by decide);refine⟨_,ak (a9 (bg pD (bV dH rfl t.dy rfl (ae (pv 0) ag)) (bw (v:= .int 1024) rfl el ⟨_,rfl⟩) (bc _))
    (ao (k7 aE rfl (t.ot.d3 rfl) (NM (cs:=cs) t) dN rfl t.iB.m t.ot.b (ax (cs:=cs)))) a_)<|
   ao (aD (cj (fO (t.oF.fG rfl) (PF (cs:=cs) t) cP rfl t.aP.m t.oF.b .nil (ax (cs:=cs)) (ae (aK t.qW (Nr (cs:=cs) t) AU aE.passes (ae (pv 0) ag)) ag)) t.aP.cl t.nZ.me (QX (cs:=cs) t) hr t.nZ.b .nil aE.passes)),?_⟩
  refine aS (decide (1024<x.length)) (fun Rb hR=>⟨_,rfl,a,_,rfl,.inr (bW ha),x.length,1024,(by rw[a8]),rfl,_,rfl,hR⟩) (fun z=>?_) fun z=>?_
  ·have:Vabldl.read x= .error {kind:=1,place:=0}:=by unfold Vabldl.read;rw[if_pos (show Vabldl.MOST<x.length from of_decide_eq_true z)]
   rw[this] at o;exact⟨Nat.zero_le _,fun d hd=>d4 t.iB [] rfl hd o⟩
  ·have hz: ¬1024<x.length:=of_decide_eq_false z;refine⟨_,rfl,a,x,rfl,ha,by omega,fun p hp=>?_,fun toks aw H1 l us s1 hl el hT bH Vw sE=>?_⟩
   ·rw[Fb hz hp] at o;exact o
   intro b db hb bC bo;refine zj (us:=[_]) rfl hb bC bo fun H2 s2 _ e2=>?_;have Uw:=xZ x.length (x.length+1) x toks aw;have R2:bh t b db l us toks H2 0:=⟨e2,s2 _ _ el,hT.hX (dh.of s2),sE,Vw,fun i tk e hk=>(Uw tk (List.mem_of_getElem? e)).num hk,by omega⟩;refine⟨b,_,_,rfl,e2,rfl,b,db,l,us,toks,rfl,R2,?_⟩;have Lu:H b=none:=s1.free hb;have cR:ai H H2:=s1.trans s2;cases hg:lu toks with
   |error e=>
    rw[Gg hz aw hg] at o;have o:Throws H (lK t e.kind) (dS (-10-(e.kind:Int)) (e.place:Int)) E:=o;intro H3 d k3 hd ed;refine o H3 d (fun c ob ec=>k3 c ob (cR c ob ec) (aR ec Lu)) (cR.free hd) ed
   |ok y=>
    rw[Gh hz aw hg] at o;intro H3 v k3 hq;exact o H3 v (fun c ob ec=>k3 c ob (cR c ob ec) (aR ec Lu)) (hq.weak fun c h e=>h (cR.free e))
theorem Od{prog:Program}{w:World}{s:Shared}{a:Addr}{o:Obj}{es:Array DictEntry}{ep:Nat}{Q:Value->Shared->Prop}{A:Around}{E:Value->Shared->Prop}(hd:(a==sysModules)=false)(h1:s.heap.get? a=some o)(h2:o.ExactDict)(h3:o.data= .dict es ep)(hz:es.size<1000)
  (q:Q (.int es.size (s.toks+1)) {s with toks:=s.toks+1+1}):wpAny (model prog w) A (call (.builtin "len") [.ref a]) Q E s:=by
 have hT:s.TypeIs (.ref a) "dict":=⟨o,h1,h2.1⟩;refine call_len_slot (n:=(es.size:Nat)) hT PySem.F.slot_dict_len (fun Q' q'=>?_) (by omega) (by omega) q;refine wpAny_call_entry PySem.F.slot_dict_len hT PySem.F.entry_dict_len ?_ (PySem.F.args_dict_len_1 _);unfold Builtin.«dict.__len__» Builtin.Dict.dictSlotNone;refine wpAny_bind (wpAny_bind (wpAny_notOrdered_dict hT ?_));show wpAny _ _ (pure (Value.ref a)) _ _ _;refine wpAny_pure ?_;refine wpAny_bind (wpAny_pure ?_);unfold dictSize;refine wpAny_bind (wpAny_bind (wpAny_dictEntries h1 h3 (wpAny_pure ?_)));unfold Builtin.Dict.pendingCount;rw[hd,if_neg Bool.false_ne_true];refine wpAny_bind (wpAny_pure ?_);unfold retInt;refine wpAny_bind (wpAny_mkInt (wpAny_pure ?_));refine⟨_,rfl,?_⟩;rw[show((es.size:Int)+((0:Nat):Int))=(es.size:Int) by omega];exact q'
section
variable{X:Cx}
theorem iz:gh X (.builtin "isinstance") (fun xs H Q=> ∃(x C D:Addr)(b:Bool),xs=[.ref x,.ref D]/\eE X.K H (.ref x) (.ref C)/\PySem.W.kitOne X.K (.ref C) (.ref D)=some b/\Q (.bl b) H):=by
 intro aa s σ H xs us Q I r q;obtain⟨x,C,D,b,rfl,ty,e,q⟩:=q;cases r with
 |cons r1 r2=>
  cases r2 with
  |cons r3 r4=>
   cases r4;cases r1;cases r3;exact Pj (x:= .ref x) I (show Value.ref x=Value.ref x from rfl) ty e fun tk=>⟨.bl b,H,I.tok tk,rfl,q⟩
theorem CF.ty{K:FG}{mg:Str->Option Value}{y:Str}{fs:List Str}(c:CF K mg y fs){H:Hp}{a dx:Addr}{lX:List (Str×V)}(e:H a=some (.ins c.C dx lX)):eE K H (.ref a) (.ref c.C):= .ins e c.cl c.Wh c.Wi c.Wj c.Wk
theorem OL:gh X (.type "dict") (fun xs H Q=> ∃(a:Addr)(af:List (Key×V)),xs=[.ref a]/\H a=some (.dK af)/\ ∀p,H p=none->Q (.ref p) (upd H p (.dK (jV [] af)))):=by
 intro aa s σ H xs us Q I r q;obtain⟨a,af,rfl,ea,q⟩:=q;obtain⟨u,rfl,rx⟩:=vals1 r;cases (show u=Value.ref a from rx);obtain⟨z,hd,vs,rel,dd⟩:=JN I.aw ea;refine callType_codes (Q₁:=fun obj s₁=>obj= .ref s.heap.objs.size/\s₁={s with heap:=s.heap.push {cls:= .type "dict",data:= .dict #[]}}) PySem.F.kt_called_dict (PySem.F.kt_typeCall_dict_1 _) PySem.F.entry_dict_init (kt_code_dict_new _ ⟨rfl,rfl⟩) ?_;rintro obj s₁ ⟨rfl,rfl⟩;have Ab:(s.heap.push {cls:= .type "dict",data:= .dict #[]}).DictOf (dJ X.prog X.w) s.heap.objs.size []:=Heap.DictOf.new s.heap;have k0: ∀b o,s.heap.get? b=some o->(s.heap.push {cls:= .type "dict",data:= .dict #[]}).get? b=some o:=fun b o e=>Heap.get?_push_of_some _ e;have Ld:(s.heap.push {cls:= .type "dict",data:= .dict #[]}).DictOf (dJ X.prog X.w) a vs:=dd.at fun o e=>k0 _ _ e;refine⟨Ab.typeIs,PySem.F.args_dict_init_2 _ _,?_⟩;unfold Builtin.«dict.__init__»;refine wpAny_bind ?_;unfold Builtin.Dict.selfAndRest;refine wpAny_bind (wpAny_notOrdered_dict Ab.typeIs ?_);show wpAny _ _ (pure (s.heap.objs.size,[Value.ref a])) _ _ _;refine wpAny_pure ?_;show wpAny _ _ (Builtin.Dict.updateFrom "dict.__init__" s.heap.objs.size (.ref a) [] .none) _ _ _;unfold Builtin.Dict.updateFrom;have iq:Shared.TypeIs {s with heap:=s.heap.push {cls:= .type "dict",data:= .dict #[]}} (.ref a) "dict":=Ld.typeIs;refine wpAny_bind (wpAny_typeOf iq ?_);rw[if_neg (by decide)];unfold Builtin.Dict.merge Builtin.Dict.readDirectly;refine wpAny_bind (wpAny_bind (wpAny_bind (wpAny_isInstance iq (b:=true) rfl ?_)));rw[if_neg (by decide)];refine wpAny_bind (wpAny_specialOf iq PySem.F.slot_dict_iter.lookup (wpAny_pure ?_));rw[if_pos (by decide)];refine wpAny_bind (wpAny_pure ?_);have aW:a<s.heap.objs.size:=by obtain⟨o,_,_,e,_⟩:=dd;exact Heap.lt_size e
 refine wpAny_mergeDict (Ne.symm (Nat.ne_of_lt aW)) hd Ab Ld (fun h' d1 d2 sb=>?_) (by rw[<-rel.length];simpa using z);refine wpAny_bind (wpAny_pure (wpAny_pure ?_));have hm:(s.heap.objs.size==sysModules)=false:=beq_eq_false_iff_ne.mpr (Nat.ne_of_gt I.big);have bH:(jV [] af).length<=sizeLine:=by
  refine Nat.le_trans (C1 af []) ?_;rw[List.length_nil,Nat.zero_add];exact z
 refine⟨rfl,⟨.ref s.heap.objs.size,upd H s.heap.objs.size (.dK (jV [] af)),I.laid (t':=s.toks) (fun b o e=>(sb.2 b (Nat.ne_of_lt (Heap.lt_size e))).trans (k0 _ _ e)) (Nat.le_refl _) (show bG X.prog X.w _ _ _ (.dK (jV [] af)) from⟨bH,hm,merged [] vs,KV.merge rel .nil,d1⟩),rfl,q _ (I.aw.fresh (Nat.le_refl _))⟩⟩
theorem Pb:gh X (.builtin "len") (fun xs H Q=> ∃(a:Addr)(af:List (List Key×V)),xs=[.ref a]/\H a=some (.dT af)/\af.length<1000/\Q (.int (af.length:Nat)) H):=by
 intro aa s σ H xs us Q I r q;obtain⟨a,af,rfl,ea,hk,q⟩:=q;obtain⟨u,rfl,rx⟩:=vals1 r;cases (show u=Value.ref a from rx);obtain⟨z,hd,xs,rel,dd⟩:=JO I.aw ea;obtain⟨o,es,ep,h1,h2,h3,h4,h5⟩:=dd;have hl:es.size=af.length:=by
  have:=congrArg List.length h4;rw[List.length_map,Array.length_toList] at this;rw[this];exact(Paired.length rel).symm
 refine Od hd h1 h2 h3 (by rw[hl];exact hk) ?_;rw[hl];exact⟨.int (af.length:Nat),H,I.tok _,⟨_,rfl⟩,q⟩
end
theorem Sl{af:List (Key×V)}{k:Key}{v:V}(h:k∉af.map (·.1)):putK af k v=af++[(k,v)]:=by
 unfold putK;rw[if_neg]
 intro q;obtain⟨x,hx,e⟩:=List.any_eq_true.mp q;exact h (List.mem_map.mpr ⟨x,hx,of_decide_eq_true e⟩)
theorem E2: ∀(af acc:List (Key×V)),((acc++af).map (·.1)).Nodup->jV acc af=acc++af
 |[],acc,_=>by rw[List.append_nil];rfl
 |(k,v)::r,acc,h=>by
  show jV (putK acc k v) r=_;have hk:k∉acc.map (·.1):=fun q=>by
   rw[List.map_append,List.nodup_append] at h;exact h.2.2 k q k (by simp) rfl
  rw[Sl hk,E2 r (acc++[(k,v)]) (by rw[List.append_assoc];exact h),List.append_assoc];rfl
theorem lay_ints: ∀w:List Int,PyData.canLayAll0 (w.map PyData.int)=true
 |[]=>rfl
 |a::w=>by
  show(PyData.canLay0 (.int a)&&PyData.canLayAll0 (w.map PyData.int))=true;rw[lay_ints w];rfl
theorem ER: ∀w:List Int,PyData.depthAll (w.map PyData.int)<=1
 |[]=>by decide
 |a::w=>by
  show max (PyData.depth (.int a)) (PyData.depthAll (w.map PyData.int))<=1;have:=ER w;have h:PyData.depth (.int a)<=1:=by first |exact Nat.le_refl _ |exact Nat.zero_le _
  omega
theorem yi(w:List Int):SeqAt.shaped (.tuple (w.map PyData.int))=true:=by
 unfold SeqAt.shaped;rw[Bool.and_eq_true];refine⟨lay_ints w,decide_eq_true ?_⟩;have:=ER w;show PyData.depthAll (w.map PyData.int)+1<=64;omega
theorem vw{K:FG}{H:Hp}: ∀w:List Nat,mM K H (nums w) ((w.map fun(c:Nat)=>(c:Int)).map PyData.int)
 |[]=> .nil
 |c::w=> .cons (.int _) (vw w)
theorem Qu{v w:List Nat}:(v.map fun(c:Nat)=>(c:Int))=(w.map fun(c:Nat)=>(c:Int))↔v=w:=
 ⟨fun h=>(List.map_inj_right (fun a b e=>Int.ofNat_inj.mp e)).mp h,fun h=>by rw[h]⟩
section
variable{X:Cx}
def VY(K:FG):List V->Hp->VK->Prop:=fun xs H Q=> ∃p ys,xs=[.ref p]/\(aA K H p ys∨bu K H p ys)/\Q (.int ys.length) H
theorem len_K{K:FG}(h:X.K=K):gh X (.builtin "len") (VY K):=by subst h;exact dH
theorem JT{K:FG}(h:X.K=K):sV X (Aj K):=by subst h;exact d5
def VX(K:FG):R2:=fun x y H Q=> ∃(b:Addr)(w:List Nat)(o:Option (List Nat)),y= .ref b/\bu K H b (nums w)/\(match o with |none=>x= .aN |some v=> ∃a,x= .ref a/\bu K H a (nums v))/\Q (.bl (decide (o=some w))) H
theorem zl(hu:X.A.units+64<cLine):bJ X (compareOp .Eq) (fun x y H Q=> ∃(b:Addr)(w:List Nat)(o:Option (List Nat)),y= .ref b/\bu X.K H b (nums w)/\(match o with |none=>x= .aN |some v=> ∃a,x= .ref a/\bu X.K H a (nums v))/\Q (.bl (decide (o=some w))) H):=by
 rintro aa s σ H x y v u Q I rx ry ⟨b,w,o,rfl,hb,ho,q⟩;cases o with
 |none=>
  subst ho;refine Jj hu aa s σ H _ _ v u Q I rx ry ⟨.none,_,.aN,.tup hb (vw w),rfl,yi _,?_⟩;rw[decide_eq_false (by intro h;cases h)] at q;exact q
 |some z=>
  obtain⟨a,rfl,ha⟩:=ho;refine Jj hu aa s σ H _ _ v u Q I rx ry ⟨_,_,.tup ha (vw z),.tup hb (vw w),yi _,yi _,?_⟩;have e:PyData.eqv (.tuple ((z.map fun(c:Nat)=>(c:Int)).map PyData.int)) (.tuple ((w.map fun(c:Nat)=>(c:Int)).map PyData.int))=decide (some z=some w):=by
   show PyData.eqvAll _ _=_;rw[PySem.W.ked_eqvAll];exact decide_eq_decide.mpr ⟨fun h=>by rw[Qu.mp h],fun h=>by cases h;rfl⟩
  rw[e];exact q
theorem Uq{K:FG}(h:X.K=K)(hu:X.A.units+64<cLine):bJ X (compareOp .Eq) (VX K):=by subst h;exact zl hu
end
theorem FQ(part:List Nat): ∀row:List Nat,Vabldl.within part row=(List.range (row.length+1-part.length)).any fun i=>decide ((row.drop i).take part.length=part)
 |[]=>by
  cases part with
  |nil=>rfl
  |cons a p=>show false=_;rw[show([]:List Nat).length+1-(a::p).length=0 by simp];rfl
 |c::r=>by
  show(part.isPrefixOf (c::r) || Vabldl.within part r)=_;rw[FQ part r];have hp:part.isPrefixOf (c::r)=decide (((c::r).drop 0).take part.length=part):=by
   rw[Bool.eq_iff_iff,List.isPrefixOf_iff_prefix,decide_eq_true_eq,List.prefix_iff_eq_take,List.drop_zero];exact eq_comm
  by_cases h:part.length<=r.length+1
  ·rw[show(c::r).length+1-part.length=(r.length+1-part.length)+1 by rw[List.length_cons];omega,List.range_succ_eq_map,List.any_cons,List.any_map,hp];rfl
  ·rw[show(c::r).length+1-part.length=0 by rw[List.length_cons];omega,show r.length+1-part.length=0 by omega,hp];show(_ || false)=false;rw[Bool.or_false,decide_eq_false];intro e;have:=congrArg List.length e;rw[List.length_take,List.drop_zero,List.length_cons] at this;omega
inductive Ii(vs:List V)(H:Hp)(Q:VK)(E:XK):Prop
 |mk(a b:Addr)(row part:List Nat):vs=[.ref a,.ref b]->H a=some (.tup (nums row))->H b=some (.tup (nums part))->row.length<2000->part.length<2000->(∀H',ai H H'->Q (.bl (Vabldl.within part row)) H')->Ii vs H Q E
theorem QS(t:Tx K mg w):aB P w K mg base (aC P w cs) 5 t.holds.f t.holds.fd ["row","part"] Ii:=by
 refine t.holds.F.aJ true vn (fun vs H Q E h=>?_) (fun ay A outer s H vs Q E hr h=>?_)
 ·obtain⟨a,b,row,part,rfl,_⟩:=h;rfl
 ·obtain⟨a,b,row,part,rfl,ha,hb,Y9,Y_,k⟩:=h;refine⟨_,ak (aT 2 vn.nd (a0 r9 (bV dH rfl t.dy rfl (ae (pv 0) ag)) (bV dH rfl t.dy rfl (ae (pv 1) ag))))<|
   ao (aD (bV (SX rfl) rfl t.J0 rfl (ae (lG (own:=[("start",3)]) rfl vn.nd (E7 (by rfl) t.y2 (ae (a0 Ji (pv 2) aM) ag)) (gS rfl)
   (fun _ _ _ _ _=>dc (i:=3) vn.nd rfl (Or.inl rfl)) (fun _ _ _ _ _=>jT) (fun _ _ _ _ _=>ji (Uq (K:=K) rfl hr.units) (o_ si (pv 0) (gW (pv 3)) (gW (a0 iI (pv 3) (bV (id:="len") (len_K (K:=K) rfl) rfl t.dy rfl (ae (pv 1) ag))))) (pv 1) (bc _))) ag))),?_⟩
  refine⟨_,rfl,a,_,rfl,.inr (bW ha),_,rfl,b,_,rfl,.inr (bW hb),_,_,rfl,rfl,?_⟩;rw[a8,a8];refine⟨_,rfl,_,_,rfl,rfl,?_⟩;have hn:((row.length:Int)-(part.length:Int)+1).toNat=row.length+1-part.length:=by omega
  refine⟨_,rfl,(by omega),(by omega),fun D hD=>?_⟩;refine F6 (lo:=0) (fun i H'=>ai H H'/\H' D=some (.lst (kl ((List.range i).map fun i=>decide ((row.drop i).take part.length=part))))) ⟨ai.new hD,au⟩ (fun i H' hi ⟨hs,hl⟩=>?_) (fun H' ⟨hs,hl⟩=>?_)
  ·rw[hn] at hi;refine⟨rfl,yes ⟨_,rfl,_,rfl,_,rfl,_,rfl,_,rfl,b,_,rfl,.inr (bW (hs _ _ hb)),i,part.length,(by rw[Int.zero_add]),(by rw[a8]),_,rfl,a,row,i,i+part.length,rfl,(by rw[Int.zero_add]),rfl,hs _ _ ha,(by omega),(by omega),fun H2 p2 aY wZ=>?_⟩⟩;rw[Nat.add_sub_cancel_left] at wZ;refine⟨_,rfl,b,part,some _,rfl,bW (aY _ _ (hs _ _ hb)),⟨p2,rfl,bW wZ⟩,_,aY _ _ hl,?_,ai.cM (hs.trans aY) hD,?_⟩
   ·rw[List.length_map,List.length_map,List.length_range];exact Nat.lt_of_lt_of_le (show i<2001 by omega) (by decide)
   ·rw[au,List.range_succ,List.map_append,Ea];show some (HO.lst (_++[V.bl (decide (some _=some part))]))=some (HO.lst (_++[V.bl (decide _)]));rw[show decide (some ((row.drop i).take part.length)=some part)=decide ((row.drop i).take part.length=part) from decide_eq_decide.mpr ⟨Option.some.inj,fun h=>by rw[h]⟩]
  ·rw[hn] at hl;refine⟨D,_,rfl,aA.of hl,?_⟩;rw[List.any_map];have:=k H' hs;rw[FQ] at this;exact this
def cw(w:VT):List Key:=w.map fun(c:Nat)=> .inl (c:Int)
theorem o9(w:VT):(cw w).map kV=nums w:=by unfold cw;rw[List.map_map];rfl
theorem vy{a b:VT}(h:cw a=cw b):a=b:=(List.map_inj_right (fun x y e=>Int.ofNat_inj.mp (Sum.inl.inj e))).mp h
def zH(a b c:V):List (Str×V):=[("name",a),("kind",b),("marks",c)]
def pA(a b c:V):List (Str×V):=[("nodes",a),("number_by_name",b),("needs",c)]
def lh(H:Hp)(af:List (List Key×V))(ms:List (VT×VT)):Prop:=Paired (fun kv m=>kv.1=cw m.1/\cW H kv.2 m.2) af ms
inductive iJ(t:Tx K mg w)(H:Hp)(v:V)(m:Addr)(nd:Vabldl.Node):Prop
 |mk(x dx:Addr)(nm kd:V)(af:List (List Key×V)):v= .ref x->H x=some (.ins t.d7.C dx (zH nm kd (.ref m)))->cW H nm nd.name->cW H kd nd.kind->H m=some (.dT af)->lh H af nd.marks->af.length<=8->(nd.marks.map (·.1)).Nodup->iJ t H v m nd
theorem iJ.same{t:Tx K mg w}{H H':Hp}{v:V}{m:Addr}{nd:Vabldl.Node}(h:iJ t H v m nd)(s:ai H H'):iJ t H' v m nd:=by
 obtain⟨x,dx,nm,kd,af,h1,h2,h3,h4,h5,h6,h7,h8⟩:=h;exact⟨x,dx,nm,kd,af,h1,s _ _ h2,h3.keep fun b xs e=>s _ _ e,h4.keep fun b xs e=>s _ _ e,s _ _ h5,Paired.c5 (fun a c g=>⟨g.1,g.2.keep fun b xs e=>s _ _ e⟩) h6,h7,h8⟩
def pK(wd:String)(tx:List VT)(nd:Vabldl.Node):Bool:=
 if wd="kind" then nd.kind==tx.headD [] else if wd="filter" then Vabldl.within (tx.headD []) nd.name else nd.marks.any fun y=>y.1==tx.headD []&&y.2==(tx.drop 1).headD []
inductive Jt(t:Tx K mg w)(vs:List V)(H:Hp)(Q:VK)(E:XK):Prop
 |mk(v:V)(m lt:Addr)(nd:Vabldl.Node)(wd:String)(tv:List V)(tx:List VT):vs=[v,.str (Str.ofString wd),.ref lt]->iJ t H v m nd->H lt=some (.lst tv)->Paired (cW H) tv tx->nd.name.length<=1000->((wd="kind"/\tx.length=1)∨(wd="filter"/\tx.length=1)∨(wd="mark"/\tx.length=2))->(∀H',ai H H'->Q (.bl (pK wd tx nd)) H')->Jt t vs H Q E
theorem QE{H:Hp}{af:List (List Key×V)}{ms:List (VT×VT)}(h:lh H af ms)(a:VT):match ms.find? (fun y=>y.1==a) with
  |none=>bM af (cw a)=none
  |some y=> ∃u,bM af (cw a)=some u/\cW H u y.2:=by
 unfold bM
 induction h with
 |nil=>rfl
 | @cons kv m af ms hd tl ih=>
  rw[List.find?_cons,List.find?_cons]
  by_cases e:m.1=a
  ·rw[show(m.1==a)=true from beq_iff_eq.mpr e,show decide (kv.1=cw a)=true from decide_eq_true (by rw[hd.1,e])];exact⟨_,rfl,hd.2⟩
  ·rw[show(m.1==a)=false from beq_eq_false_iff_ne.mpr e,show decide (kv.1=cw a)=false from decide_eq_false (by rw[hd.1];exact fun q=>e (vy q))];exact ih
theorem QD{ms:List (VT×VT)}(h:(ms.map (·.1)).Nodup)(a b:VT):(ms.any fun y=>y.1==a&&y.2==b)=decide ((ms.find? fun y=>y.1==a).map (·.2)=some b):=by
 induction ms with
 |nil=>rfl
 |cons m ms ih=>
  rw[List.map_cons,List.nodup_cons] at h;rw[List.any_cons,List.find?_cons]
  by_cases e:m.1=a
  ·have hn:(ms.any fun y=>y.1==a&&y.2==b)=false:=by
    rw[List.any_eq_false];intro y hy q;rw[Bool.and_eq_true,beq_iff_eq] at q;exact h.1 (List.mem_map.mpr ⟨y,hy,by rw[q.1,e]⟩)
   rw[show(m.1==a)=true from beq_iff_eq.mpr e,hn,Bool.true_and,Bool.or_false];show(m.2==b)=decide (some m.2=some b);rw[Bool.eq_iff_iff,beq_iff_eq,decide_eq_true_eq];exact⟨fun h=>by rw[h],Option.some.inj⟩
  ·rw[show(m.1==a)=false from beq_eq_false_iff_ne.mpr e,Bool.false_and,Bool.false_or];exact ih h.2
theorem u1{a c:Nat}(h:a+64<c):a+1<c:=by omega
theorem zc(a b:String):decide (V.str (Str.ofString a)=V.str (Str.ofString b))=decide (Str.ofString a=Str.ofString b):=decide_eq_decide.mpr ⟨V.str.inj,fun h=>by rw[h]⟩
theorem J7{A B:Type}{R:A->B->Prop}{l:List A}{m:List B}{n:Nat}(h:Paired R l m)(hl:m.length=n+1): ∃a r b s,l=a::r/\m=b::s/\R a b/\Paired R r s/\s.length=n:=by
 cases h with
 |nil=>cases hl
 |cons g r=>exact⟨_,_,_,_,rfl,rfl,g,r,Nat.succ.inj hl⟩
theorem UP{A B:Type}{R:A->B->Prop}{l:List A}{m:List B}(h:Paired R l m)(hl:m.length=0):l=[]/\m=[]:=by
 cases h with
 |nil=>exact⟨rfl,rfl⟩
 |cons g r=>cases hl
theorem zK{H:Hp}{tv:List V}{tx:List VT}(h:Paired (cW H) tv tx)(hl:tx.length=1): ∃p x,tv=[.ref p]/\tx=[x]/\H p=some (.tup (nums x))/\x.length<=1024:=by
 obtain⟨_,_,x,_,rfl,rfl,⟨p,rfl,g,z⟩,r,k⟩:=J7 h hl;obtain⟨rfl,rfl⟩:=UP r k;exact⟨p,x,rfl,rfl,g,z⟩
theorem UO{H:Hp}{tv:List V}{tx:List VT}(h:Paired (cW H) tv tx)(hl:tx.length=2): ∃p x q y,tv=[.ref p,.ref q]/\tx=[x,y]/\H p=some (.tup (nums x))/\H q=some (.tup (nums y)):=by
 obtain⟨_,_,x,_,rfl,rfl,⟨p,rfl,g,z⟩,r,k⟩:=J7 h hl;obtain⟨q,y,rfl,rfl,g2,_⟩:=zK r k;exact⟨p,x,q,y,rfl,rfl,g,g2⟩
theorem Sa(t:Tx K mg w):aB P w K mg base (aC P w cs) 6 t.fits.f t.fits.fd ["node","word","texts"] (Jt t):=by
 refine t.fits.F.aJ true Su (fun vs H Q E h=>?_) (fun ay A outer s H vs Q E hr h=>?_)
 ·obtain⟨v,m,lt,nd,wd,tv,tx,rfl,_⟩:=h;rfl
 ·obtain⟨v,m,lt,nd,wd,tv,tx,rfl,N,bZ,hp,Y3,hw,k⟩:=h;refine⟨_,ak (a9 (bg dP (pv 1) aZ (bc _)) (ao (aD (ji (zl hr.units) (aQ (pv 0) rfl) (cf d5 (pv 2) aM (fun _ _=>rfl)) (bc _)))) a_)<|
   ak (a9 (bg dP (pv 1) aZ (bc _)) (ao (aD (aK t.holds (QS (cs:=cs) t) hr (ax (cs:=cs)) (ae (aQ (pv 0) rfl)<|ae (cf d5 (pv 2) aM (fun _ _=>rfl)) ag)))) a_)<|
   ao (aD (ji (zl hr.units) (QZ (u1 hr.units) (aQ (pv 0) rfl) (cf d5 (pv 2) aM (fun _ _=>rfl)) ⟨rfl,rfl,rfl,rfl⟩) (cf d5 (pv 2) aM (fun _ _=>rfl)) (bc _))),?_⟩
  obtain⟨x,dx,nm,kd,af,rfl,ex,LI,LD,em,qd,Y1,bE⟩:=N;rcases hw with⟨rfl,hl⟩ |⟨rfl,hl⟩ |⟨rfl,hl⟩
  ·obtain⟨p,y,rfl,rfl,ep,_⟩:=zK hp hl;obtain⟨q,rfl,eq,_⟩:=LD;refine gX (fun Rb hR=>⟨_,rfl,rfl,_,rfl,by rw[decide_eq_true rfl];exact hR⟩) ?_;refine⟨_,rfl,x,_,_,_,_,rfl,ex,t.d7.cl,t.d7.nn,rfl,_,rfl,lt,_,_,_,rfl,rfl,aA.of bZ,at_of (j:=0) rfl rfl,p,y,some nd.kind,rfl,bW ep,⟨q,rfl,bW eq⟩,?_⟩;have:=k H (ai.refl H);rw[show pK "kind" [y] nd=decide (some nd.kind=some y) from ?_] at this
   ·exact this
   ·show(nd.kind==y)=_;rw[Bool.eq_iff_iff,beq_iff_eq,decide_eq_true_eq];exact⟨fun h=>by rw[h],Option.some.inj⟩
  ·obtain⟨p,y,rfl,rfl,ep,ez⟩:=zK hp hl;obtain⟨q,rfl,eq,_⟩:=LI;refine aS false (fun Rb hR=>⟨_,rfl,rfl,_,rfl,by rw[zc,show decide (Str.ofString "filter"=Str.ofString "kind")=false by decide +kernel];exact hR⟩) (fun z=>by cases z) fun _=>?_;refine gX (fun Rb hR=>⟨_,rfl,rfl,_,rfl,by rw[decide_eq_true rfl];exact hR⟩) ?_;exact⟨_,rfl,x,_,_,_,_,rfl,ex,t.d7.cl,t.d7.nn,rfl,_,rfl,lt,_,_,_,rfl,rfl,aA.of bZ,at_of (j:=0) rfl rfl,q,p,nd.name,y,rfl,eq,ep,by omega,by omega,k⟩
  ·obtain⟨p,y,q,z,rfl,rfl,ep,eq⟩:=UO hp hl;refine aS false (fun Rb hR=>⟨_,rfl,rfl,_,rfl,by rw[zc,show decide (Str.ofString "mark"=Str.ofString "kind")=false by decide +kernel];exact hR⟩) (fun z=>by cases z) fun _=>?_;refine aS false (fun Rb hR=>⟨_,rfl,rfl,_,rfl,by rw[zc,show decide (Str.ofString "mark"=Str.ofString "filter")=false by decide +kernel];exact hR⟩) (fun z=>by cases z) fun _=>?_;refine⟨_,rfl,x,_,_,_,_,rfl,ex,t.d7.cl,t.d7.nn,rfl,m,rfl,.inr ⟨_,.inl em⟩,_,rfl,lt,_,_,_,rfl,rfl,aA.of bZ,at_of (j:=0) rfl rfl,bM af (cw y),dM.t em (by rw[o9];exact ep),?_⟩;have mv:=QE qd y;have hB:pK "mark" [y,z] nd=decide ((nd.marks.find? fun u=>u.1==y).map (·.2)=some z):=QD bE y z;rw[hB] at k;refine⟨_,rfl,lt,_,_,_,rfl,rfl,aA.of bZ,at_of (j:=1) rfl rfl,q,z,(nd.marks.find? fun u=>u.1==y).map (·.2),rfl,bW eq,?_,k H (ai.refl H)⟩;cases hf:nd.marks.find? fun u=>u.1==y with
   |none=>rw[hf] at mv;rw[mv];rfl
   |some u=>
    rw[hf] at mv;obtain⟨v,e1,b,rfl,e2,_⟩:=mv;rw[e1];exact⟨b,rfl,bW e2⟩
def hG(g:VG):List (List Key×V):=g.zipIdx.map fun p=>(cw p.1.name,V.int (p.2:Int))
structure bx(t:Tx K mg w)(H:Hp)(ga dg la lb lc:Addr)(nv:List V)(ms:List Addr)(g:VG)(needs:List Nat):Prop where
 obj:H ga=some (.ins t.aX.C dg (pA (.ref la) (.ref lb) (.ref lc)))
 nodes:H la=some (.lst nv)
 names:H lb=some (.dT (hG g))
 need:H lc=some (.lst (nums needs))
 len:nv.length=g.length
 gr:ms.length=g.length
 node: ∀(i:Nat) nd,g[i]? =some nd-> ∃v m,nv[i]? =some v/\ms[i]? =some m/\iJ t H v m nd
 nd:ms.Nodup
 jE:lb∉ms
 kz:la≠lc
 rel:cX g needs
 le:g.length<=64
 good: ∀nd∈g,nd.name.length<=40
theorem bx.same{t:Tx K mg w}{H H':Hp}{ga dg la lb lc:Addr}{nv:List V}{ms:List Addr}{g:VG}{needs:List Nat}(G:bx t H ga dg la lb lc nv ms g needs)(s:ai H H'):bx t H' ga dg la lb lc nv ms g needs:=
 ⟨s _ _ G.obj,s _ _ G.nodes,s _ _ G.names,s _ _ G.need,G.len,G.gr,fun i nd e=>let⟨v,m,e1,e2,e3⟩:=G.node i nd e;⟨v,m,e1,e2,e3.same s⟩,G.nd,G.jE,G.kz,G.rel,G.le,G.good⟩
theorem bx.needs{t:Tx K mg w}{H:Hp}{ga dg la lb lc:Addr}{nv:List V}{ms:List Addr}{g:VG}{needs:List Nat}(G:bx t H ga dg la lb lc nv ms g needs):gT K H lc needs g.length:=⟨aA.of G.need,G.rel.len,G.rel.low,G.le⟩
inductive GJ(K:FG)(vs:List V)(H:Hp)(Q:VK)(E:XK):Prop
 |mk(a:Addr)(needs:List Nat)(n m:Nat):vs=[.ref a,.int (m:Int)]->gT K H a needs n->m<2^n->(∀H',ai H H'->Q (.int (maskOf ((bits n m).filter fun a=>decide (minus (needs.getD a 0&&&m) (2^a)=0)):Nat)) H')->GJ K vs H Q E
inductive Fs(K:FG)(vs:List V)(H:Hp)(Q:VK)(E:XK):Prop
 |mk(a:Addr)(needs:List Nat)(n s u:Nat)(k:Option Nat):vs=[.ref a,.int (s:Int),.int (u:Int),iQ k]->gT K H a needs n->s<2^n->u<2^n->(∀H' i j,ai H H'->fP needs n none i s->fP (flipped n needs) n k j u->Q (.int (runM needs n i s&&&runM (flipped n needs) n j u:Nat)) H')->Fs K vs H Q E
def L9(o a b:Nat):Nat:=if o=0 then a ||| b else if o=1 then minus a b else a&&&b
inductive GH(vs:List V)(H:Hp)(Q:VK)(E:XK):Prop
 |mk(o a b:Nat):vs=[.str (fI o),.int (a:Int),.int (b:Int)]->o<3->Q (.int (L9 o a b:Nat)) H->GH vs H Q E
theorem E4(t:Tx K mg w):aB P w K mg base (aC P w cs) 6 t.leaves.f t.leaves.fd ["needs","mask"] (GJ K):=by
 refine t.leaves.F.aJ true yy (fun vs H Q E h=>?_) (fun ay A outer s H vs Q E hr h=>?_)
 ·obtain⟨a,needs,n,m,rfl,_⟩:=h;rfl
 ·obtain⟨a,needs,n,m,rfl,N,hm,k⟩:=h;refine⟨_,ao (aD (aK t.mE (x9 (cs:=cs) t) hr (ax (cs:=cs)) (ae (lG (own:=[("number",2)]) rfl yy.nd (gf (aK t.members (oM (cs:=cs) t) hr (ax (cs:=cs)) (ae (pv 1) ag))) (gS rfl)
   (fun _ _ _ _ _=>dc (i:=2) yy.nd rfl (Or.inl rfl)) (fun _ _ _ _ _=>y9 (bg dE (a0 u5 (a0 rT (cf (JT (K:=K) rfl) (pv 0) (pv 2) (fun _ _=>rfl)) (pv 1)) (fe vS (a0 jh aM (pv 2)))) aM (bc _))) (fun _ _ _ _ _=>pv 2)) ag))),?_⟩
  refine⟨_,rfl,m,rfl,mZ hm N.le,fun H1 l dm hl e1=>?_⟩;rw[mB hm N.le] at e1;refine⟨l,rfl,⟨_,aA.of e1⟩,fun D hD=>?_⟩;have zG:(bits n m).length<=64:=Nat.le_trans (jl n m) N.le;refine mD (K:=K) (a:=l) (xs:=nums (bits n m)) (fun i H'=>ai H1 H'/\H' D=some (.lst (nums (((bits n m).take i).filter fun a=>decide (minus (needs.getD a 0&&&m) (2^a)=0))))) ⟨ai.new hD,au⟩ (fun i H' _ ⟨hs,_⟩=>hs.seq (aA.of e1)) (fun i y H' hi ⟨hs,bP⟩=>?_) (fun H' ⟨hs,bP⟩=>?_)
  ·obtain⟨x,hx,rfl⟩:=iE hi;have A0:x<n:=(dI.mp (List.mem_of_getElem? hx)).1;have N2:=(N.same dm).same hs;refine⟨rfl,_,rfl,_,rfl,a,_,_,_,rfl,rfl,N2.at_,at_of (j:=x) rfl (e_ (oO (by rw[N.len];exact A0))),_,rfl,_,_,rfl,rfl,_,rfl,x,rfl,rfl,by have:=N.le;omega,_,rfl,_,_,rfl,rfl,_,0,rfl,rfl,_,rfl,?_⟩;refine bS (fun q=>⟨_,rfl,_,bP,?_,ai.cM hs hD,?_⟩) fun q=>⟨hs,?_⟩
   ·rw[a8];refine Nat.lt_of_le_of_lt (List.length_filter_le _ _) ?_;rw[List.length_take];exact Nat.lt_of_le_of_lt (Nat.min_le_right _ _) (kf zG)
   ·rw[au,take_snoc hx,List.filter_append,List.filter_cons,if_pos q,List.filter_nil,eZ];rfl
   ·rw[take_snoc hx,List.filter_append,List.filter_cons,if_neg (by rw[q];decide),List.filter_nil,List.append_nil];exact bP
  ·rw[a8,List.take_length] at bP;exact⟨D,_,rfl,aA.of bP,fun x hx=>Nat.lt_of_lt_of_le (dI.mp (List.mem_filter.mp hx).1).1 N.le,k H' (dm.trans hs)⟩
theorem O3(t:Tx K mg w):aB P w K mg base (aC P w cs) 8 t.between.f t.between.fd ["needs","start","goal","limit"] (Fs K):=by
 refine t.between.F.aJ true O7 (fun vs H Q E h=>?_) (fun ay A outer s H vs Q E hr h=>?_)
 ·obtain⟨a,needs,n,s,u,k,rfl,_⟩:=h;rfl
 ·obtain⟨a,needs,n,s,u,kk,rfl,N,hs,hu,k⟩:=h;have bB:az 6 _:=hr.mono (by decide);refine⟨_,ao (aD (a0 rT (aK t.reached (x_ (cs:=cs) t) hr (ax (cs:=cs)) (ae (pv 0)<|ae (pv 1)<|ae r_ ag))
   (aK t.reached (x_ (cs:=cs) t) hr (ax (cs:=cs)) (ae (aK t.turned (yp (cs:=cs) t) bB (ax (cs:=cs)) (ae (pv 0) ag))<|ae (pv 2)<|ae (pv 3) ag)))),?_⟩
  refine⟨_,rfl,_,rfl,a,needs,n,s,none,rfl,N,hs,fun H1 i s1 e1=>?_⟩;refine⟨_,rfl,a,needs,n,rfl,N.same s1,fun H2 l s2 hl el=>?_⟩;refine⟨_,rfl,_,rfl,l,flipped n needs,n,u,kk,rfl,⟨aA.of el,xP n needs,fo n needs,N.le⟩,hu,fun H3 j s3 e3=>⟨_,_,rfl,rfl,k H3 i j ((s1.trans s2).trans s3) e1 e3⟩⟩
theorem PJ(t:Tx K mg w):aB P w K mg base (aC P w cs) 5 t.joined.f t.joined.fd ["sign","left","right"] GH:=by
 refine t.joined.F.aJ true PV (fun vs H Q E h=>?_) (fun ay A outer s H vs Q E hr h=>?_)
 ·obtain⟨o,a,b,rfl,_⟩:=h;rfl
 ·obtain⟨o,a,b,rfl,ho,k⟩:=h;refine⟨_,ak (a9 (bg dP (pv 0) aZ (bc _)) (ao (aD (a0 mJ (pv 1) (pv 2)))) a_)<|
   ak (a9 (bg dP (pv 0) aZ (bc _)) (ao (aD (a0 u5 (pv 1) (fe vS (pv 2))))) a_)<|
   ao (aD (a0 rT (pv 1) (pv 2))),?_⟩
  have sd: ∀o,o<3-> ∀p,p<2->decide (V.str (fI o)=V.str (fI p))=decide (o=p):=by decide +kernel
  refine aS (decide (o=0)) (fun Rb hR=>⟨_,rfl,rfl,_,rfl,by rw[show decide (V.str (fI o)=V.str (Str.ofString "+"))=decide (o=0) from sd o ho 0 (by decide)];exact hR⟩) (fun z=>?_) fun z=>?_
  ·have z:=of_decide_eq_true z;subst z;exact⟨_,rfl,_,rfl,a,b,rfl,rfl,k⟩
  have z:=of_decide_eq_false z;refine aS (decide (o=1)) (fun Rb hR=>⟨_,rfl,rfl,_,rfl,by rw[show decide (V.str (fI o)=V.str (Str.ofString "-"))=decide (o=1) from sd o ho 1 (by decide)];exact hR⟩) (fun z1=>?_) fun z1=>?_
  ·have z1:=of_decide_eq_true z1;subst z1;exact⟨_,rfl,_,rfl,_,rfl,a,b,rfl,rfl,k⟩
  ·have z1:=of_decide_eq_false z1;unfold L9 at k;rw[if_neg z,if_neg z1] at k;exact⟨_,rfl,_,rfl,a,b,rfl,rfl,k⟩
theorem zB{X:Cx}{K:FG}{e:Expr}{f:Str}{pos:Pos}{ta:TE}(h:X.K=K)(he:PE X e ta)(hb:attributeBase e f X.env (eval e X.env)=eval e X.env):PE X (.Attribute e f pos) (sN K ta f):=by subst h;exact aQ he hb
def pO(g:VG)(k:Vabldl.Known)(qs:List Qy)(ms:List Nat):Prop:=Paired (fun q m=>Means g k q (some m)) qs ms
theorem G_: ∀a∈cD,∀b∈cD,(Str.ofString a=Str.ofString b↔a=b):=by decide +kernel
theorem G9: ∀a∈cD,¬Str.ofString a=Str.ofString "all":=by decide +kernel
theorem DW(g:VG): ∀(ls:List Vabldl.Nodes)(a:Nat),a<g.length-> ∀x∈Vabldl.pathFrom g ls a,x<g.length
 |[],a,ha,x,hx=>by
  rw[show Vabldl.pathFrom g [] a=[a] from rfl,List.mem_singleton] at hx;rw[hx];exact ha
 |l::r,a,ha,x,hx=>by
  unfold Vabldl.pathFrom at hx
  split at hx
  ·rename_i b hb
   rcases List.mem_cons.mp hx with rfl |hx
   ·exact ha
   ·have hm:=List.mem_of_find?_eq_some hb;unfold Vabldl.those Vabldl.allOf at hm;exact DW g r b (List.mem_range.mp (List.mem_filter.mp hm).1) x hx
  ·rw[List.mem_singleton] at hx;rw[hx];exact ha
theorem EO{g:VG}{s:Nat}{u:Vabldl.Nodes}: ∀x∈Vabldl.chosen g (bits g.length s) u,x<g.length:=by
 intro x hx;unfold Vabldl.chosen at hx;dsimp only at hx
 split at hx
 ·cases hx
 ·split at hx
  ·rename_i a ha
   exact DW g _ a (dI.mp (List.mem_of_find?_eq_some ha)).1 x hx
  ·cases hx
theorem S_{tc:TT}{t rest:TS}{D:Ends}{σ:L2.St}{H:Hp}(b:Bool)(h: ∀R:Bool->Hp->Prop,(∀H',ai H H'->R b H')->tc σ H R)(ht: ∀H',ai H H'->b=true->ff t rest D σ H')(hu: ∀H',ai H H'->b=false->rest D σ H'):ff (lP tc t pN) rest D σ H:=
 h _ fun H' s=>bS (ht H' s) (hu H' s)
theorem JH{ms:List Nat}(h:ms.length=2): ∃a b,ms=[a,b]:=by
 match ms,h with
 |[a,b],_=>exact⟨a,b,rfl⟩
theorem r8{ms:List Nat}(h:ms.length=1): ∃a,ms=[a]:=by
 match ms,h with
 |[a],_=>exact⟨a,rfl⟩
theorem IE{tx:List VT}(h:tx.length=2): ∃a b,tx=[a,b]:=by
 match tx,h with
 |[a,b],_=>exact⟨a,b,rfl⟩
theorem vz{tx:List VT}(h:tx.length=1): ∃a,tx=[a]:=by
 match tx,h with
 |[a],_=>exact⟨a,rfl⟩
theorem pO.one{g:VG}{k:Vabldl.Known}{qs:List Qy}{a:Nat}(h:pO g k qs [a]): ∃q,qs=[q]/\Means g k q (some a):=by
 cases h with
 |cons h1 h2=>cases h2;exact⟨_,rfl,h1⟩
theorem pO.two{g:VG}{k:Vabldl.Known}{qs:List Qy}{a b:Nat}(h:pO g k qs [a,b]): ∃p q,qs=[p,q]/\Means g k p (some a)/\Means g k q (some b):=by
 cases h with
 |cons h1 h2=>
  cases h2 with
  |cons h3 h4=>cases h4;exact⟨_,_,rfl,h1,h3⟩
theorem Jc{n m:Nat}(h:m<2^n)(hn:n<=64):low 64 m=low n m:=by unfold low;rw[mB h hn]
inductive Ia(t:Tx K mg w)(vs:List V)(H:Hp)(Q:VK)(E:XK):Prop
 |mk(ga dg la lb lc:Addr)(nv:List V)(mk:List Addr)(g:VG)(needs:List Nat)(x dx lt lp ml:Addr)(ms:List Nat):vs=[.ref ga,.ref x,.ref ml]->bx t H ga dg la lb lc nv mk g needs->H ml=some (.lst (nums ms))->((H x=some (.ins t.aU.C dx (jo (.str "all") (.ref lt) (.ref lp) .aN))/\ ∀H',ai H H'->Q (.int (2^g.length-1:Nat)) H')∨
  ∃(wd:String)(tv:List V)(tx:List VT)(bf:Option Nat),H x=some (.ins t.aU.C dx (jo (.str (Str.ofString wd)) (.ref lt) (.ref lp) (iQ bf)))/\wd∈cD/\H lt=some (.lst tv)/\Paired (cW H) tv tx/\tx.length=(shapeOf wd).1/\ms.length=(shapeOf wd).2.1+1/\(∀m∈ms,m<2^g.length)/\((shapeOf wd).2.2=false->bf=none)/\
   ∀r H',ai H H'->(∀k qs,pO g k qs ms->Means g k (Bq.ft wd tx qs bf) (some r))->Q (.int (r:Nat)) H')->Ia t vs H Q E
theorem mx{t:Tx K mg w}{H:Hp}{x dx:Addr}{wd:Str}{a b c:V}{σ:L2.St}{s:Str}{R:Bool->Hp->Prop}(hx:H x=some (.ins t.aU.C dx (jo (.str wd) a b c)))(h1:σ[1]? =some (some (.ref x)))(hR:R (decide (wd=s)) H):
  sA (jG Bc (sN K (dU 1) "word") (tC (.str s))) σ H R:=by
 refine⟨_,h1,x,_,_,_,_,rfl,hx,t.aU.cl,t.aU.nn,rfl,rfl,_,rfl,?_⟩;rw[show decide (V.str wd=V.str s)=decide (wd=s) from decide_eq_decide.mpr ⟨V.str.inj,fun h=>by rw[h]⟩];exact hR
theorem MV(t:Tx K mg w):aB P w K mg base (aC P w cs) 9 t.qL.f t.qL.fd ["graph","call","masks"] (Ia t):=by
 refine t.qL.F.aJ true qC (fun vs H Q E h=>?_) (fun ay A outer s H vs Q E hr h=>?_)
 ·obtain⟨ga,dg,la,lb,lc,nv,mk,g,needs,x,dx,lt,lp,ml,ms,rfl,_⟩:=h;rfl
 ·obtain⟨ga,dg,la,lb,lc,nv,mk,g,needs,x,dx,lt,lp,ml,ms,rfl,G,Av,h⟩:=h;have eI:az 7 _:=hr.mono (by decide);have bB:az 6 _:=hr.mono (by decide);have bj:az 5 _:=hr.mono (by decide);refine⟨_,ak (a9 (bg dP (aQ (pv 1) rfl) aZ (bc _)) (ao (aD (a0 vA (a0 jh aM (bV dH rfl t.dy rfl (ae (aQ (pv 0) rfl) ag))) aM))) a_)<|
   ak (aT 3 qC.nd (aQ (pv 0) rfl))<|
   ak (aT 4 qC.nd (cf d5 (pv 2) aM (fun _ _=>rfl)))<|
   ak (a9 (bg dP (aQ (pv 1) rfl) aZ (bc _)) (ao (aD (aK t.reached (x_ (cs:=cs) t) eI (ax (cs:=cs)) (ae (pv 3)<|ae (pv 4)<|ae (aQ (pv 1) rfl) ag)))) a_)<|
   ak (a9 (bg yr (aQ (pv 1) rfl) (sh (ae aZ<|ae aZ ag)) rfl) (ao (aD (aK t.between (O3 (cs:=cs) t) hr (ax (cs:=cs)) (ae (pv 3)<|ae (pv 4)<|ae (cf d5 (pv 2) aM (fun _ _=>rfl))<|ae (aQ (pv 1) rfl) ag)))) a_)<|
   ak (a9 (bg dP (aQ (pv 1) rfl) aZ (bc _)) (ao (aD (aK t.mE (x9 (cs:=cs) t) bj (ax (cs:=cs)) (ae (aK t.mj (xC (cs:=cs) t) hr (ax (cs:=cs)) (ae (pv 3)<|ae (pv 4)<|ae (cf d5 (pv 2) aM (fun _ _=>rfl)) ag)) ag)))) a_)<|
   ak (a9 (bg dP (aQ (pv 1) rfl) aZ (bc _)) (ao (aD (aK t.leaves (E4 (cs:=cs) t) bB (ax (cs:=cs)) (ae (pv 3)<|ae (pv 4) ag)))) a_)<|
   ak (a9 (bg dP (aQ (pv 1) rfl) aZ (bc _)) (ao (aD (aK t.leaves (E4 (cs:=cs) t) bB (ax (cs:=cs)) (ae (aK t.turned (yp (cs:=cs) t) bB (ax (cs:=cs)) (ae (pv 3) ag))<|ae (pv 4) ag)))) a_)<|
   ak (a9 (bg dP (aQ (pv 1) rfl) aZ (bc _)) (ao (aD (vm (bg dE (pv 4) aM (bc _)) aM (a0 jh aM (aK t.pf (DV (cs:=cs) t) bB (ax (cs:=cs)) (ae (pv 4) ag)))))) a_)<|
   ao (aD (aK t.mE (x9 (cs:=cs) t) bj (ax (cs:=cs)) (ae (lG (own:=[("number",5)]) rfl qC.nd (gf (aK t.members (oM (cs:=cs) t) bj (ax (cs:=cs)) (ae (pv 4) ag))) (gS rfl)
    (fun _ _ _ _ _=>dc (i:=5) qC.nd rfl (Or.inl rfl)) (fun _ _ _ _ _=>y9 (c0 (aK t.fits (Sa (cs:=cs) t) bB (ax (cs:=cs)) (ae (cf (JT (K:=K) rfl) (zB (K:=K) rfl (pv 0) rfl) (pv 5) (fun _ _=>rfl))<|ae (zB (K:=K) rfl (pv 1) rfl)<|ae (zB (K:=K) rfl (pv 1) rfl) ag)))) (fun _ _ _ _ _=>pv 5)) ag))),?_⟩
  have fg: ∀(f:Str)(v:V)(σ:L2.St)(H':Hp)(R:VK),ai H H'->σ[0]? =some (some (.ref ga))->f∈(["needs","nodes","number_by_name"]:List Str)->(pA (.ref la) (.ref lb) (.ref lc)).lookup f=some v->R v H'->sN K (dU 0) f σ H' R:=fun f v σ H' R hs h0 hf hl hR=>
   ⟨_,h0,ga,_,_,_,_,rfl,hs _ _ G.obj,t.aX.cl,t.aX.na _ hf,hl,hR⟩
  rcases h with⟨ex,k⟩ |⟨wd,tv,tx,bf,ex,c8,bZ,jD,A7,jF,qe,z_,k⟩
  ·refine aS true (fun Rb hR=>mx ex rfl (by rw[decide_eq_true rfl];exact hR)) (fun _=>?_) fun z=>by cases z
   refine fg "nodes" _ _ _ _ (ai.refl H) rfl (by decide +kernel) rfl ?_;refine⟨la,_,rfl,.inl (aA.of G.nodes),g.length,rfl,(by rw[G.len]),by have:=G.le;omega,_,1,rfl,rfl,Nat.two_pow_pos _,?_⟩;exact k H (ai.refl H)
  ·have hn: ∀b∈cD,∀(Rb:Bool->Hp->Prop)(H':Hp),Rb (decide (wd=b)) H'->Rb (decide (Str.ofString wd=Str.ofString b)) H':=fun b hb Rb H' h=>by
    rw[show decide (Str.ofString wd=Str.ofString b)=decide (wd=b) from decide_eq_decide.mpr (G_ wd c8 b hb)];exact h
   refine aS false (fun Rb hR=>mx ex rfl (by rw[decide_eq_false (G9 wd c8)];exact hR)) (fun z=>by cases z) fun _=>?_;refine fg "needs" _ _ _ _ (ai.refl H) rfl (by decide +kernel) rfl ?_;obtain⟨m,fV⟩: ∃m,ms[0]? =some m:=⟨_,List.getElem?_eq_getElem (by rw[jF];omega)⟩;have hm:=qe m (List.mem_of_getElem? fV);refine⟨_,rfl,ml,_,_,_,rfl,rfl,aA.of Av,at_of (j:=0) rfl (e_ fV),?_⟩;dsimp only [d6,de,Ends.d9];have N:=G.needs;refine aS (decide (wd="deps")) (fun Rb hR=>mx ex rfl (hn "deps" (by decide) Rb _ hR)) (fun z=>?_) fun z=>?_
   ·have z:=of_decide_eq_true z;subst z;obtain⟨_,rfl⟩:=r8 jF;cases fV;refine⟨_,rfl,_,rfl,_,rfl,x,_,_,_,_,rfl,ex,t.aU.cl,t.aU.nn,rfl,lc,needs,g.length,m,bf,rfl,N,hm,fun H' i hs he=>k _ H' hs fun kk qs hq=>?_⟩;obtain⟨q,rfl,h1⟩:=hq.one;exact OV G.rel h1 he
   have z1:=of_decide_eq_false z;refine S_ (decide (wd="needers") || decide (wd="allpaths")) (fun Rb hR=>?_) (fun H1 s1 z=>?_) fun H1 s1 z=>?_
   ·refine⟨_,rfl,x,_,_,_,_,rfl,ex,t.aU.cl,t.aU.nn,rfl,(by show 2<=sizeLine;decide),fun T hT=>⟨T,_,rfl,.inr (bW au),rfl,rfl,_,rfl,?_⟩⟩;have e:i4 (.str (Str.ofString wd)) [.str "needers",.str "allpaths"]=(decide (wd="needers") || decide (wd="allpaths")):=by
     show((Str.ofString "needers"==Str.ofString wd) || ((Str.ofString "allpaths"==Str.ofString wd) || false))=_;have h: ∀b∈cD,(Str.ofString b==Str.ofString wd)=decide (wd=b):=fun b hb=>by
      rw[Bool.eq_iff_iff,beq_iff_eq,decide_eq_true_eq,G_ b hb wd c8];exact eq_comm
     rw[h "needers" (by decide),h "allpaths" (by decide),Bool.or_false]
    show Rb (i4 (.str (Str.ofString wd)) [.str "needers",.str "allpaths"]) _;rw[e];exact hR _ (ai.new hT)
   ·have N1:=N.same s1;have l2:(shapeOf wd).2.1=1:=by
     rw[Bool.or_eq_true] at z;rcases z with z |z
     ·rw[of_decide_eq_true z];rfl
     ·rw[of_decide_eq_true z];rfl
    rw[l2] at jF;obtain⟨a,b,rfl⟩:=JH jF;cases fV;have hb:=qe b (by simp);refine⟨_,rfl,_,rfl,_,rfl,ml,_,_,_,rfl,rfl,aA.of (s1 _ _ Av),at_of (j:=1) rfl (e_ (l:=[m,b]) rfl),_,rfl,x,_,_,_,_,rfl,s1 _ _ ex,t.aU.cl,t.aU.nn,rfl,lc,needs,g.length,m,b,bf,rfl,N1,hm,hb,fun H' i j hs Lw Lx=>k _ H' (s1.trans hs) fun kk qs hq=>?_⟩;obtain⟨p,q,rfl,h1,h3⟩:=hq.two;rw[Bool.or_eq_true] at z;rcases z with z |z
    ·have z:=of_decide_eq_true z;subst z;exact C2 G.rel h1 h3 Lw Lx
    ·have z:=of_decide_eq_true z;subst z;have:=z_ rfl;subst this;exact M7 G.rel h1 h3 Lw Lx
   have N1:=N.same s1;have wK:=s1 _ _ ex;have z2:wd≠"needers"/\wd≠"allpaths":=by
    rw[Bool.or_eq_false_iff] at z;exact⟨of_decide_eq_false z.1,of_decide_eq_false z.2⟩
   refine aS (decide (wd="somepath")) (fun Rb hR=>mx wK rfl (hn "somepath" (by decide) Rb _ hR)) (fun z=>?_) fun z=>?_
   ·have z:=of_decide_eq_true z;subst z;obtain⟨a,b,rfl⟩:=JH jF;cases fV;have hb:=qe b (by simp);refine⟨_,rfl,_,rfl,_,rfl,ml,_,_,_,rfl,rfl,aA.of (s1 _ _ Av),at_of (j:=1) rfl (e_ (l:=[m,b]) rfl),lc,needs,g,m,b,rfl,N1,G.rel,hm,hb,fun H2 l aY hl el=>⟨l,_,rfl,aA.of el,fun y hy=>Nat.lt_of_lt_of_le (EO y hy) G.le,k _ H2 (s1.trans aY) fun kk qs hq=>?_⟩⟩;obtain⟨p,q,rfl,h1,h3⟩:=hq.two;exact M8 h1 h3 EO
   have z3:=of_decide_eq_false z;refine aS (decide (wd="leaves")) (fun Rb hR=>mx wK rfl (hn "leaves" (by decide) Rb _ hR)) (fun z=>?_) fun z=>?_
   ·have z:=of_decide_eq_true z;subst z;obtain⟨_,rfl⟩:=r8 jF;cases fV;refine⟨_,rfl,_,rfl,lc,needs,g.length,m,rfl,N1,hm,fun H' hs=>k _ H' (s1.trans hs) fun kk qs hq=>?_⟩;obtain⟨q,rfl,h1⟩:=hq.one;exact qM (f:= .leaves) rfl h1 (Po G.rel hm)
   have z4:=of_decide_eq_false z;refine aS (decide (wd="roots")) (fun Rb hR=>mx wK rfl (hn "roots" (by decide) Rb _ hR)) (fun z=>?_) fun z=>?_
   ·have z:=of_decide_eq_true z;subst z;obtain⟨_,rfl⟩:=r8 jF;cases fV;refine⟨_,rfl,lc,needs,g.length,rfl,N1,fun H2 l aY hl el=>⟨_,rfl,l,flipped g.length needs,g.length,m,rfl,⟨aA.of el,xP _ _,fo _ _,G.le⟩,hm,fun H' hs=>k _ H' ((s1.trans aY).trans hs) fun kk qs hq=>?_⟩⟩;obtain⟨q,rfl,h1⟩:=hq.one;exact qM (f:= .roots) rfl h1 (Q_ G.rel)
   have z5:=of_decide_eq_false z;refine aS (decide (wd="first")) (fun Rb hR=>mx wK rfl (hn "first" (by decide) Rb _ hR)) (fun z=>?_) fun z=>?_
   ·have z:=of_decide_eq_true z;subst z;obtain⟨_,rfl⟩:=r8 jF;cases fV;refine⟨_,rfl,m,0,rfl,rfl,_,rfl,bS (fun z=>?_) fun z=>?_⟩
    ·have z:=of_decide_eq_true z;subst z;refine k 0 H1 s1 fun kk qs hq=>?_;obtain⟨q,rfl,h1⟩:=hq.one;have:=DR h1;rw[if_pos rfl] at this;exact this
    ·have z:=of_decide_eq_false z;refine⟨_,rfl,m,rfl,mZ hm G.le,z,fun H2 aY=>⟨_,rfl,rfl,?_,k _ H2 (s1.trans aY) fun kk qs hq=>?_⟩⟩
     ·rw[Jc hm G.le];have:=Jd hm z;have:=G.le;omega
     ·obtain⟨q,rfl,h1⟩:=hq.one;have:=DR h1;rw[if_neg z,<-Jc hm G.le] at this;exact this
   have z6:=of_decide_eq_false z;have zD:(wd="kind"/\tx.length=1)∨(wd="filter"/\tx.length=1)∨(wd="mark"/\tx.length=2):=by
    simp only [cD,List.mem_cons,List.not_mem_nil,or_false] at c8;rcases c8 with rfl |rfl |rfl |rfl |rfl |rfl |rfl |rfl |rfl |rfl
    ·exact absurd rfl z1
    ·exact absurd rfl z2.1
    ·exact absurd rfl z3
    ·exact absurd rfl z2.2
    ·exact .inl ⟨rfl,A7⟩
    ·exact .inr (.inl ⟨rfl,A7⟩)
    ·exact .inr (.inr ⟨rfl,A7⟩)
    ·exact absurd rfl z4
    ·exact absurd rfl z5
    ·exact absurd rfl z6
   refine⟨_,rfl,m,rfl,mZ hm G.le,fun H2 l aY hl e2=>?_⟩;rw[mB hm G.le] at e2;refine⟨l,rfl,⟨_,aA.of e2⟩,fun D hD=>?_⟩;have zG:(bits g.length m).length<=64:=Nat.le_trans (jl _ m) G.le
   let pr:Nat->Bool:=fun a=>match g[a]? with |some nd=>pK wd tx nd |none=>false
   refine mD (K:=K) (a:=l) (xs:=nums (bits g.length m)) (fun i H'=>ai H2 H'/\H' D=some (.lst (nums (((bits g.length m).take i).filter pr)))) ⟨ai.new hD,au⟩ (fun i H' _ ⟨hs,_⟩=>hs.seq (aA.of e2)) (fun i y H' hi ⟨hs,bP⟩=>?_) (fun H' ⟨hs,bP⟩=>?_)
   ·obtain⟨a,ha,rfl⟩:=iE hi;have WW:a<g.length:=(dI.mp (List.mem_of_getElem? ha)).1;obtain⟨nd,bE⟩: ∃nd,g[a]? =some nd:=⟨_,List.getElem?_eq_getElem WW⟩;have s0:ai H H':=(s1.trans aY).trans hs;have G':=G.same s0;obtain⟨v,mm,ev,em,hN⟩:=G'.node a nd bE;refine⟨rfl,_,rfl,ga,_,_,_,_,rfl,G'.obj,t.aX.cl,t.aX.nn,rfl,_,rfl,la,_,_,_,rfl,rfl,aA.of G'.nodes,at_of (j:=a) rfl ev,_,rfl,x,_,_,_,_,rfl,s0 _ _ ex,t.aU.cl,t.aU.nn,rfl,_,rfl,x,_,_,_,_,rfl,s0 _ _ ex,t.aU.cl,t.aU.nn,rfl,v,mm,lt,nd,wd,tv,tx,rfl,hN,s0 _ _ bZ,Paired.c5 (fun u y g=>g.keep fun b xs e=>s0 _ _ e) jD,by have:=G.good nd (List.mem_of_getElem? bE);omega,zD,fun H3 c7=>⟨_,rfl,?_⟩⟩;have tU:pr a=pK wd tx nd:=by show(match g[a]? with |some nd=>pK wd tx nd |none=>false)=_;rw[bE]
    rw[<-tU];refine bS (fun q=>⟨_,rfl,_,c7 _ _ bP,?_,ai.cM (hs.trans c7) hD,?_⟩) fun q=>⟨hs.trans c7,?_⟩
    ·rw[a8];refine Nat.lt_of_le_of_lt (List.length_filter_le _ _) ?_;rw[List.length_take];exact Nat.lt_of_le_of_lt (Nat.min_le_right _ _) (kf zG)
    ·rw[au,take_snoc ha,List.filter_append,List.filter_cons,if_pos q,List.filter_nil,eZ];rfl
    ·rw[take_snoc ha,List.filter_append,List.filter_cons,if_neg (by rw[q];decide),List.filter_nil,List.append_nil];exact c7 _ _ bP
   ·rw[a8,List.take_length] at bP;refine⟨D,_,rfl,aA.of bP,fun y hy=>Nat.lt_of_lt_of_le (dI.mp (List.mem_filter.mp hy).1).1 G.le,k _ H' ((s1.trans aY).trans hs) fun kk qs hq=>?_⟩;have l1:(shapeOf wd).2.1=0:=by rcases zD with⟨rfl,_⟩ |⟨rfl,_⟩ |⟨rfl,_⟩<;>rfl
    rw[l1] at jF;obtain⟨_,rfl⟩:=r8 jF;cases fV;obtain⟨q,rfl,h1⟩:=hq.one;rcases zD with⟨rfl,h⟩ |⟨rfl,h⟩ |⟨rfl,h⟩
    ·obtain⟨y,rfl⟩:=vz h;exact qM (f:= .kind y) rfl h1 (gO fun a _=>by show Vabldl.kindIs g y a=(match g[a]? with |some nd=>_ |none=>false);unfold Vabldl.kindIs;cases g[a]? <;>rfl)
    ·obtain⟨y,rfl⟩:=vz h;exact qM (f:= .filter y) rfl h1 (gO fun a _=>by show Vabldl.nameHas g y a=(match g[a]? with |some nd=>_ |none=>false);unfold Vabldl.nameHas;cases g[a]? <;>rfl)
    ·obtain⟨y,z,rfl⟩:=IE h;exact qM (f:= .mark y z) rfl h1 (gO fun a _=>by show Vabldl.markIs g y z a=(match g[a]? with |some nd=>_ |none=>false);unfold Vabldl.markIs;cases g[a]? <;>rfl)
theorem F7(w:VT): ∀(g:VG)(j:Nat),bM ((g.zipIdx j).map fun p=>(cw p.1.name,V.int (p.2:Int))) (cw w)=(g.findIdx? fun x=>x.name==w).map fun(i:Nat)=>V.int ((i+j:Nat):Int)
 |[],j=>rfl
 |nd::g,j=>by
  rw[List.zipIdx_cons,List.map_cons,List.findIdx?_cons];unfold bM;rw[List.find?_cons]
  by_cases e:nd.name=w
  ·rw[show decide (cw nd.name=cw w)=true from decide_eq_true (by rw[e]),show(nd.name==w)=true from beq_iff_eq.mpr e];show some (V.int (j:Int))=some (V.int ((0+j:Nat):Int));rw[Nat.zero_add]
  ·rw[show decide (cw nd.name=cw w)=false from decide_eq_false fun q=>e (vy q),show(nd.name==w)=false from beq_eq_false_iff_ne.mpr e];have ih:=F7 w g (j+1);unfold bM at ih;rw[ih,if_neg Bool.false_ne_true,Option.map_map]
   congr 1
   funext i
   show V.int _=V.int _;rw[show i+(j+1)=i+1+j by omega]
theorem yn(g:VG)(w:VT):bM (hG g) (cw w)=(g.findIdx? fun x=>x.name==w).map fun(i:Nat)=>V.int (i:Int):=F7 w g 0
theorem yh{g:VG}{k:Vabldl.Known}: ∀(ss:List (Nat×Qy))(q:Qy),Means g k q none->Means g k (sumOf q ss) none
 |[],q,h=>h
 |s::ss,q,h=>yh ss (.op s.1 q s.2) (Pt s.1 h)
theorem DE: ∀(ss:List (Nat×Qy))(q:Qy)(vs:List VT),b7 vs (sumOf q ss)->b7 vs q/\ ∀s∈ss,b7 vs s.2
 |[],q,vs,h=>⟨h,fun s hs=>by cases hs⟩
 |s::ss,q,vs,h=>by
  obtain⟨h1,h2⟩:=DE ss (.op s.1 q s.2) vs h;refine⟨h1.1,fun s' hs=>?_⟩;rcases List.mem_cons.mp hs with rfl |hs
  ·exact h1.2
  ·exact h2 s' hs
theorem D8(q:Qy)(a b:List (Nat×Qy)):sumOf q (a++b)=sumOf (sumOf q a) b:=List.foldl_append
theorem Paired.get{α β:Type}{P:α->β->Prop}{xs:List α}{ys:List β}(p:Paired P xs ys): ∀{i:Nat}{x:α},xs[i]? =some x-> ∃y,ys[i]? =some y/\P x y:=by
 induction p with
 |nil=>intro i x h;simp at h
 | @cons a b as bs h t ih=>
  intro i x e;cases i with
  |zero=>cases e;exact⟨b,rfl,h⟩
  |succ i=>exact ih e
structure jr(H:Hp)(gv:Addr)(af:List (Key×V))(gn:List (VT×Nat))(d:Nat):Prop where
 at_:H gv=some (.dK af)
 nd:(af.map (·.1)).Nodup
 gB:af.length+d<=60
 val: ∀v,bM af (.inr (strOf v))=(gn.lookup v).map fun(m:Nat)=>V.int (m:Int)
theorem jr.same{H H':Hp}{gv:Addr}{af:List (Key×V)}{gn:List (VT×Nat)}{d:Nat}(h:jr H gv af gn d)(s:ai H H'):jr H' gv af gn d:=⟨s _ _ h.at_,h.nd,h.gB,h.val⟩
theorem jr.less{H:Hp}{gv:Addr}{af:List (Key×V)}{gn:List (VT×Nat)}{d:Nat}(h:jr H gv af gn (d+1)):jr H gv af gn d:=⟨h.at_,h.nd,by have:=h.gB;omega,h.val⟩
inductive EA(t:Tx K mg w)(vs:List V)(H:Hp)(Q:VK)(E:XK):Prop
 |mk(ga dg la lb lc:Addr)(nv:List V)(mk:List Addr)(g:VG)(needs:List Nat)(v:V)(x:VT):vs=[.ref ga,v]->bx t H ga dg la lb lc nv mk g needs->cW H v x->(∀i,(g.findIdx? fun y=>y.name==x)=some i->Q (.int (i:Nat)) H)->((g.findIdx? fun y=>y.name==x)=none->Throws H t.dG.C (b8 (-16)) E)->EA t vs H Q E
inductive yz(t:Tx K mg w)(d:Nat)(vs:List V)(H:Hp)(Q:VK)(E:XK):Prop
 |mk(ga dg la lb lc:Addr)(nv:List V)(mk:List Addr)(g:VG)(needs:List Nat)(v:V)(gv:Addr)(af:List (Key×V))(gn:List (VT×Nat))(k:Vabldl.Known)(q:Qy)(B:Addr->Prop):vs=[.ref ga,v,.ref gv]->bx t H ga dg la lb lc nv mk g needs->aV t B H d v q->jr H gv af gn d->gk g.length k gn->vg g.length gn->b7 (gn.map (·.1)) q->(∀m,Means g k q (some m)-> ∀H',ai H H'->Q (.int (m:Nat)) H')->(Means g k q none->Throws H t.dG.C (b8 (-16)) E)->yz t d vs H Q E
def Kk(t:Tx K mg w)(H:Hp)(Q:VK)(E:XK)(g:VG)(k:Vabldl.Known)(q:Qy):Prop:=(∀m,Means g k q (some m)-> ∀H',ai H H'->Q (.int (m:Nat)) H')/\(Means g k q none->Throws H t.dG.C (b8 (-16)) E)
inductive Jz(t:Tx K mg w)(d:Nat)(vs:List V)(H:Hp)(Q:VK)(E:XK):Prop
 |mk(ga dg la lb lc:Addr)(nv:List V)(mk:List Addr)(g:VG)(needs:List Nat)(gv:Addr)(af:List (Key×V))(gn:List (VT×Nat))(k:Vabldl.Known)(B:Addr->Prop)(x dx ls:Addr)(v0:V)(us:List V)(q0:Qy)(ss:List (Nat×Qy)):vs=[.ref ga,.ref x,.ref gv]->bx t H ga dg la lb lc nv mk g needs->jr H gv af gn d->gk g.length k gn->vg g.length gn->H x=some (.ins t.bO.C dx (sumF v0 (.ref ls)))->H ls=some (.lst us)->aV t B H d v0 q0->Paired (pz H (aV t B H d)) us ss->b7 (gn.map (·.1)) (sumOf q0 ss)->Kk t H Q E g k (sumOf q0 ss)->Jz t d vs H Q E
inductive Ju(t:Tx K mg w)(d:Nat)(vs:List V)(H:Hp)(Q:VK)(E:XK):Prop
 |mk(ga dg la lb lc:Addr)(nv:List V)(mk:List Addr)(g:VG)(needs:List Nat)(gv:Addr)(af:List (Key×V))(gn:List (VT×Nat))(k:Vabldl.Known)(B:Addr->Prop)(x dx:Addr)(n:VT)(va vb:V)(qa qb:Qy):vs=[.ref ga,.ref x,.ref gv]->bx t H ga dg la lb lc nv mk g needs->jr H gv af gn (d+1)->gk g.length k gn->vg g.length gn->H x=some (.ins t.bF.C dx (we (.str (strOf n)) va vb))->aV t B H d va qa->aV t B H d vb qb->b7 (gn.map (·.1)) (.let_ n qa qb)->Kk t H Q E g k (.let_ n qa qb)->Ju t d vs H Q E
def kM(d:Nat):Nat:=11+2*d
theorem NN(t:Tx K mg w):aB P w K mg base (aC P w cs) 5 t.n_.f t.n_.fd ["self","name"] (EA t):=by
 refine t.n_.F.aJ true MC (fun vs H Q E h=>?_) (fun ay A outer s H vs Q E hr h=>?_)
 ·obtain⟨ga,dg,la,lb,lc,nv,mk,g,needs,v,x,rfl,_⟩:=h;rfl
 ·obtain⟨ga,dg,la,lb,lc,nv,mk,g,needs,v,x,rfl,G,hx,k1,k2⟩:=h;have fj:az 3 _:=hr.mono (by decide);refine⟨_,ak (a9 (vO (E6 (u1 hr.units) (pv 1) (aQ (pv 0) rfl)) rfl)
    (ao (k7 aE rfl (t.nV.d3 rfl) (MI (cs:=cs) t) fj rfl t.dG.m t.nV.b (ax (cs:=cs)))) a_)<|
   ao (aD (HJ (u1 hr.units) (aQ (pv 0) rfl) (pv 1) (fun _ _=>rfl))),?_⟩
  obtain⟨p,rfl,ep,_⟩:=hx;have s_:dM H lb (.ref p) ((g.findIdx? fun y=>y.name==x).map fun(i:Nat)=>V.int (i:Int)):=by
   rw[<-yn];exact dM.t G.names (by rw[o9];exact ep)
  refine aS (!((g.findIdx? fun y=>y.name==x).map fun(i:Nat)=>V.int (i:Int)).isSome) (fun Rb hR=>⟨_,rfl,_,rfl,ga,_,_,_,_,rfl,G.obj,t.aX.cl,t.aX.nn,rfl,lb,_,rfl,s_,_,rfl,hR⟩) (fun z=>?_) fun z=>?_
  ·have hn:(g.findIdx? fun y=>y.name==x)=none:=by
    cases hf:g.findIdx? fun y=>y.name==x with
    |none=>rfl
    |some i=>rw[hf] at z;cases z
   exact⟨Nat.zero_le _,fun d hd=>d4 t.dG [] rfl hd (k2 hn)⟩
  ·obtain⟨i,hi⟩: ∃i,(g.findIdx? fun y=>y.name==x)=some i:=by
    cases hf:g.findIdx? fun y=>y.name==x with
    |none=>rw[hf] at z;cases z
    |some i=>exact⟨i,rfl⟩
   rw[hi] at s_;exact⟨_,rfl,ga,_,_,_,_,rfl,G.obj,t.aX.cl,t.aX.nn,rfl,_,rfl,lb,_,rfl,s_,k1 i hi⟩
abbrev FM(P:Program)(base:Heap)(cs:Addr)(t:Tx K mg w)(d:Nat):Prop:=aB P w K mg base (aC P w cs) (kM d) t.gc.f t.gc.fd ["graph","tree","given"] (yz t d)
theorem Nj(t:Tx K mg w){d:Nat}(F:FM P base cs t d):aB P w K mg base (aC P w cs) (kM d+1) t.qU.f t.qU.fd ["graph","tree","given"] (Jz t d):=by
 refine t.qU.F.aJ true qG (fun vs H Q E h=>?_) (fun ay A outer s H vs Q E hr h=>?_) (hk:=fun _=>by unfold kM;omega)
 ·obtain⟨ga,dg,la,lb,lc,nv,mk,g,needs,gv,af,gn,k,B,x,dx,ls,v0,us,q0,ss,rfl,_⟩:=h;rfl
 ·obtain⟨ga,dg,la,lb,lc,nv,mk,g,needs,gv,af,gn,k,B,x,dx,ls,v0,us,q0,ss,rfl,G,fE,hk,aW,ex,tf,h0,hs,fF,kS,kN⟩:=h;have bj:az 5 _:=hr.mono (by unfold kM;omega);refine⟨_,ak (aT 3 qG.nd (aK t.gc F hr aE.passes (ae (pv 0)<|ae (aQ (pv 1) rfl)<|ae (pv 2) ag)))<|
   ak (jW eu rfl (gf (aQ (pv 1) rfl)) (zp rfl (pd (dc (i:=4) qG.nd rfl (Or.inl rfl)) (pd (dc (i:=5) qG.nd rfl (Or.inl rfl)) y6)))
    (ao (aT 3 qG.nd (aK t.joined (PJ (cs:=cs) t) bj aE.passes (ae (pv 4)<|ae (pv 3)<|ae (aK t.gc F hr aE.passes (ae (pv 0)<|ae (pv 5)<|ae (pv 2) ag)) ag)))))<|
   ao (aD (pv 3)),?_⟩
  obtain⟨Ye,Bk⟩:=DE ss q0 _ fF;refine⟨_,rfl,_,rfl,x,_,_,_,_,rfl,ex,t.bO.cl,t.bO.nn,rfl,_,rfl,ga,dg,la,lb,lc,nv,mk,g,needs,v0,gv,af,gn,k,q0,B,rfl,G,h0,fE,hk,aW,Ye,fun m hm H1 s1=>?_,fun hn=>kN (yh ss q0 hn)⟩;refine⟨_,rfl,x,_,_,_,_,rfl,s1 _ _ ex,t.bO.cl,t.bO.nn,rfl,ls,rfl,⟨_,aA.of (s1 _ _ tf)⟩,?_⟩;refine mz (K:=K) (a:=ls) (xs:=us) (fun i σ H'=>ai H H'/\ ∃m v4 v5,σ=[some (.ref ga),some (.ref x),some (.ref gv),some (.int (m:Nat)),v4,v5]/\Means g k (sumOf q0 (ss.take i)) (some m)) ⟨s1,m,_,_,rfl,by rw[List.take_zero];exact hm⟩ (fun i σ H' _ ⟨ip,_⟩=>aA.of (ip _ _ tf)) ?_ ?_
  ·rintro i y σ H' hi ⟨s2,m,v4,v5,rfl,fW⟩;obtain⟨st,bL,T,u,rfl,eT,ho,hu⟩:=Paired.get hs hi;have Yf:ss=ss.take i++st::ss.drop (i+1):=by rw[<-uL bL,List.take_append_drop]
   refine⟨T,_,rfl,bu.of (s2 _ _ eT),rfl,_,_,rfl,_,_,rfl,rfl,?_⟩;refine⟨_,rfl,_,rfl,_,rfl,_,rfl,_,rfl,ga,dg,la,lb,lc,nv,mk,g,needs,u,gv,af,gn,k,st.2,B,rfl,G.same s2,hu.same s2,fE.same s2,hk,aW,Bk st (List.mem_of_getElem? bL),fun m2 iY H3 s3=>?_,fun hn=>?_⟩
   ·refine⟨st.1,m,m2,rfl,ho,s2.trans s3,_,_,_,rfl,?_⟩;rw[take_snoc bL,uU];exact QF st.1 fW iY
   ·refine(kN ?_).same s2;rw[Yf,D8];exact yh (ss.drop (i+1)) (.op st.1 (sumOf q0 (ss.take i)) st.2) (Pu st.1 hn)
  ·rintro σ H' ⟨s2,m,v4,v5,rfl,fW⟩;rw[Paired.length hs,List.take_length] at fW;exact⟨_,rfl,kS m fW H' s2⟩
theorem Q4(af:List (Key×V))(k:Key)(v:V)(h:(af.map (·.1)).Nodup):((putK af k v).map (·.1)).Nodup:=by
 unfold putK
 split
 ·rw[List.map_map];have:(af.map ((·.1)∘fun kv=>if kv.1=k then(kv.1,v) else kv))=af.map (·.1):=List.map_congr_left fun x _=>by
   show(if x.1=k then(x.1,v) else x).1=x.1
   split<;>rfl
  rw[this];exact h
 ·rename_i hn
  rw[List.map_append,List.nodup_append];refine⟨h,by simp,fun a ha b hb e=>?_⟩;obtain⟨y,hy,rfl⟩:=List.mem_map.mp ha;rw[List.map_cons,List.map_nil,List.mem_singleton] at hb;exact hn (List.any_eq_true.mpr ⟨y,hy,decide_eq_true (e.trans hb)⟩)
theorem Sm(af:List (Key×V))(k k':Key)(v:V):bM (putK af k v) k'=if k'=k then some v else bM af k':=by
 unfold putK
 split
 ·rename_i h
  induction af with
  |nil=>cases h
  |cons a r ih=>
   unfold bM at ih ⊢;rw[List.map_cons,List.find?_cons,List.find?_cons]
   by_cases e:a.1=k
   ·rw[if_pos e]
    by_cases e2:k'=k
    ·rw[show decide (a.1=k')=true from decide_eq_true (by rw[e,e2]),if_pos e2];rfl
    ·rw[show decide (a.1=k')=false from decide_eq_false (by rw[e];exact fun q=>e2 q.symm),if_neg e2]
     by_cases h2:(r.any fun kv=>decide (kv.1=k))=true
     ·have:=ih h2;rw[if_neg e2] at this;exact this
     ·congr 1
      have:r.map (fun kv=>if kv.1=k then(kv.1,v) else kv)=r:=by
       conv=>rhs;rw[<-List.map_id r]
       refine List.map_congr_left fun x hx=>?_;rw[if_neg];·rfl
       exact fun q=>h2 (List.any_eq_true.mpr ⟨x,hx,decide_eq_true q⟩)
      rw[this]
   ·rw[if_neg e];rw[List.any_cons,decide_eq_false e,Bool.false_or] at h
    by_cases e3:a.1=k'
    ·rw[show decide (a.1=k')=true from decide_eq_true e3,if_neg (fun q=>e (e3.trans q))]
    ·rw[show decide (a.1=k')=false from decide_eq_false e3];exact ih h
 ·rename_i h
  unfold bM;rw[List.find?_append]
  by_cases e2:k'=k
  ·rw[if_pos e2];have:af.find? (fun kv=>decide (kv.1=k'))=none:=by
    rw[List.find?_eq_none];intro x hx q;exact h (List.any_eq_true.mpr ⟨x,hx,by rw[<-e2];exact q⟩)
   rw[this];show((List.find? (fun kv=>decide (kv.1=k')) [(k,v)]).map _)=some v;rw[List.find?_cons,show decide (k=k')=true from decide_eq_true e2.symm];rfl
  ·rw[if_neg e2,List.find?_cons,show decide (k=k')=false from decide_eq_false (fun q=>e2 q.symm),List.find?_nil,Option.or_none]
theorem Nb(t:Tx K mg w){d:Nat}(F:FM P base cs t d):aB P w K mg base (aC P w cs) (kM d+1) t.qP.f t.qP.fd ["graph","tree","given"] (Ju t d):=by
 refine t.qP.F.aJ true CQ (fun vs H Q E h=>?_) (fun ay A outer s H vs Q E hr h=>?_) (hk:=fun _=>by unfold kM;omega)
 ·obtain⟨ga,dg,la,lb,lc,nv,mk,g,needs,gv,af,gn,k,B,x,dx,n,va,vb,qa,qb,rfl,_⟩:=h;rfl
 ·obtain⟨ga,dg,la,lb,lc,nv,mk,g,needs,gv,af,gn,k,B,x,dx,n,va,vb,qa,qb,rfl,G,fE,hk,aW,ex,ha,hb,fF,kS,kN⟩:=h;refine⟨_,ak (aT 3 CQ.nd (u6 OL rfl t.Jf rfl (ae (pv 2) ag)))<|
   ak (y8 (u1 hr.units) (pv 3) (aQ (pv 1) rfl) (aK t.gc F hr aE.passes (ae (pv 0)<|ae (aQ (pv 1) rfl)<|ae (pv 2) ag)) rfl)<|
   ao (aD (aK t.gc F hr aE.passes (ae (pv 0)<|ae (aQ (pv 1) rfl)<|ae (pv 3) ag))),?_⟩
  refine⟨_,rfl,gv,af,rfl,fE.at_,fun p hp=>?_⟩;rw[E2 af [] fE.nd,List.nil_append];have s1:ai H (upd H p (.dK af)):=ai.new hp;refine⟨_,rfl,_,rfl,x,_,_,_,_,rfl,s1 _ _ ex,t.bF.cl,t.bF.nn,rfl,_,rfl,ga,dg,la,lb,lc,nv,mk,g,needs,va,gv,af,gn,k,qa,B,rfl,G.same s1,ha.same s1,(fE.same s1).less,hk,aW,fF.1,fun m hm H2 s2=>?_,fun hn=>(kN (OW hn)).same s1⟩;have cR:=s1.trans s2;have ep:H2 p=some (.dK af):=s2 _ _ au;have gB:=fE.gB;refine⟨_,rfl,_,rfl,x,_,_,_,_,rfl,cR _ _ ex,t.bF.cl,t.bF.nn,rfl,p,_,rfl,jZ.k (k:= .inr (strOf n)) ep (Nat.lt_of_le_of_lt (show af.length<=60 by omega) (by decide)),?_⟩;have s3:ai H (upd H2 p (.dK (putK af (.inr (strOf n)) (.int (m:Nat))))):=ai.cM cR hp;refine⟨_,rfl,_,rfl,x,_,_,_,_,rfl,s3 _ _ ex,t.bF.cl,t.bF.nn,rfl,_,rfl,ga,dg,la,lb,lc,nv,mk,g,needs,vb,p,_,(n,m)::gn,(n,bits g.length m)::k,qb,B,rfl,G.same s3,hb.same s3,⟨au,Q4 _ _ _ fE.nd,?_,fun v=>?_⟩,?_,?_,fF.2,fun m2 iY H4 s4=>kS m2 (EZ hm iY) H4 (s3.trans s4),fun hn=>(kN (EZ hm hn)).same s3⟩
  ·have:=uH af (.inr (strOf n)) (.int (m:Nat));omega
  ·rw[Sm,List.lookup_cons]
   by_cases e:v=n
   ·rw[if_pos (by rw[e]),show(v==n)=true from beq_iff_eq.mpr e];rfl
   ·rw[if_neg (fun q=>e (jN (Sum.inr.inj q))),show(v==n)=false from beq_eq_false_iff_ne.mpr e];exact fE.val v
  ·refine gk.put hk fun v=>?_;rw[List.lookup_cons]
   by_cases e:v=n
   ·rw[if_pos e,show(v==n)=true from beq_iff_eq.mpr e]
   ·rw[if_neg e,show(v==n)=false from beq_eq_false_iff_ne.mpr e]
  ·intro v m' hv;rw[List.lookup_cons] at hv
   by_cases e:v=n
   ·rw[show(v==n)=true from beq_iff_eq.mpr e] at hv;cases hv;exact hm.1
   ·rw[show(v==n)=false from beq_eq_false_iff_ne.mpr e] at hv;exact aW v m' hv
theorem cI{qs:List Qy}(h:qs.length=1): ∃a,qs=[a]:=by
 match qs,h with
 |[a],_=>exact⟨a,rfl⟩
theorem hU{qs:List Qy}(h:qs.length=2): ∃a b,qs=[a,b]:=by
 match qs,h with
 |[a,b],_=>exact⟨a,b,rfl⟩
theorem N3{wd:String}(hw:wd∈cD){tx:List VT}{qs:List Qy}{bf:Option Nat}(hl:qs.length=(shapeOf wd).2.1+1){vs:List VT}(h:b7 vs (Bq.ft wd tx qs bf)): ∀q∈qs,b7 vs q:=by
 simp only [cD,List.mem_cons,List.not_mem_nil,or_false] at hw;intro q hq;rcases hw with rfl |rfl |rfl |rfl |rfl |rfl |rfl |rfl |rfl |rfl
 ·obtain⟨a,rfl⟩:=cI hl;rw[List.mem_singleton] at hq;rw[hq];exact h
 ·obtain⟨a,b,rfl⟩:=hU hl;rcases List.mem_cons.mp hq with rfl |hq
  ·exact h.1
  ·rw[List.mem_singleton] at hq;rw[hq];exact h.2
 ·obtain⟨a,b,rfl⟩:=hU hl;rcases List.mem_cons.mp hq with rfl |hq
  ·exact h.1
  ·rw[List.mem_singleton] at hq;rw[hq];exact h.2
 ·obtain⟨a,b,rfl⟩:=hU hl;rcases List.mem_cons.mp hq with rfl |hq
  ·exact h.1
  ·rw[List.mem_singleton] at hq;rw[hq];exact h.2
 ·obtain⟨a,rfl⟩:=cI hl;rw[List.mem_singleton] at hq;rw[hq];exact h
 ·obtain⟨a,rfl⟩:=cI hl;rw[List.mem_singleton] at hq;rw[hq];exact h
 ·obtain⟨a,rfl⟩:=cI hl;rw[List.mem_singleton] at hq;rw[hq];exact h
 ·obtain⟨a,rfl⟩:=cI hl;rw[List.mem_singleton] at hq;rw[hq];exact h
 ·obtain⟨a,rfl⟩:=cI hl;rw[List.mem_singleton] at hq;rw[hq];exact h
 ·obtain⟨a,rfl⟩:=cI hl;rw[List.mem_singleton] at hq;rw[hq];exact h
theorem Pc{g:VG}{k:Vabldl.Known}{wd:String}(hw:wd∈cD){tx:List VT}{qs:List Qy}{bf:Option Nat}(hl:qs.length=(shapeOf wd).2.1+1){q:Qy}(hq:q∈qs)(h:Means g k q none):Means g k (Bq.ft wd tx qs bf) none:=by
 simp only [cD,List.mem_cons,List.not_mem_nil,or_false] at hw;rcases hw with rfl |rfl |rfl |rfl |rfl |rfl |rfl |rfl |rfl |rfl
 ·obtain⟨a,rfl⟩:=cI hl;rw[List.mem_singleton] at hq;subst hq;exact mw (f:=fun a=> .deps a bf) rfl h
 ·obtain⟨a,b,rfl⟩:=hU hl;rcases List.mem_cons.mp hq with rfl |hq
  ·exact xU (f:=fun a b=> .needers a b bf) rfl h
  ·rw[List.mem_singleton] at hq;subst hq;exact xV (f:=fun a b=> .needers a b bf) rfl h
 ·obtain⟨a,b,rfl⟩:=hU hl;rcases List.mem_cons.mp hq with rfl |hq
  ·exact xU (f:= .somepath) rfl h
  ·rw[List.mem_singleton] at hq;subst hq;exact xV (f:= .somepath) rfl h
 ·obtain⟨a,b,rfl⟩:=hU hl;rcases List.mem_cons.mp hq with rfl |hq
  ·exact xU (f:= .allpaths) rfl h
  ·rw[List.mem_singleton] at hq;subst hq;exact xV (f:= .allpaths) rfl h
 ·obtain⟨a,rfl⟩:=cI hl;rw[List.mem_singleton] at hq;subst hq;exact mw (f:= .kind (tx.headD [])) rfl h
 ·obtain⟨a,rfl⟩:=cI hl;rw[List.mem_singleton] at hq;subst hq;exact mw (f:= .filter (tx.headD [])) rfl h
 ·obtain⟨a,rfl⟩:=cI hl;rw[List.mem_singleton] at hq;subst hq;exact mw (f:= .mark (tx.headD []) ((tx.drop 1).headD [])) rfl h
 ·obtain⟨a,rfl⟩:=cI hl;rw[List.mem_singleton] at hq;subst hq;exact mw (f:= .leaves) rfl h
 ·obtain⟨a,rfl⟩:=cI hl;rw[List.mem_singleton] at hq;subst hq;exact mw (f:= .roots) rfl h
 ·obtain⟨a,rfl⟩:=cI hl;rw[List.mem_singleton] at hq;subst hq;exact mw (f:= .first) rfl h
theorem lookup_some{gn:List (VT×Nat)}{v:VT}(h:v∈gn.map (·.1)): ∃m,gn.lookup v=some m:=by
 induction gn with
 |nil=>cases h
 |cons a r ih=>
  rw[List.lookup_cons]
  by_cases e:v=a.1
  ·rw[show(v==a.1)=true from beq_iff_eq.mpr e];exact⟨a.2,rfl⟩
  ·rw[show(v==a.1)=false from beq_eq_false_iff_ne.mpr e];rw[List.map_cons] at h;rcases List.mem_cons.mp h with h |h
   ·exact absurd h e
   ·exact ih h
theorem bU{H:Hp}{x C D:Addr}{b:Bool}{σ:L2.St}{i:Nat}{R:Bool->Hp->Prop}(h1:σ[i]? =some (some (.ref x)))(ty:eE K H (.ref x) (.ref C))(e:PySem.W.kitOne K (.ref C) (.ref D)=some b)(hR:R b H):
  tB (xj (fun xs H Q=> ∃(x C D:Addr)(b:Bool),xs=[.ref x,.ref D]/\eE K H (.ref x) (.ref C)/\PySem.W.kitOne K (.ref C) (.ref D)=some b/\Q (.bl b) H) (iO (dU i) (iO (tC (.ref D)) iT))) σ H R:=
 ⟨_,h1,x,C,D,b,rfl,ty,e,_,rfl,hR⟩
theorem Oq(t:Tx K mg w):FM P base cs t 0:=by
 show aB P w K mg base (aC P w cs) (10+1) _ _ _ _;refine t.gc.F.aJ true uR (fun vs H Q E h=>?_) (fun ay A outer s H vs Q E hr h=>?_)
 ·obtain⟨ga,dg,la,lb,lc,nv,mk,g,needs,v,gv,af,gn,k,q,B,rfl,_⟩:=h;rfl
 ·obtain⟨ga,dg,la,lb,lc,nv,mk,g,needs,v,gv,af,gn,k,q,B,rfl,G,hq,_⟩:=h;exact hq.elim
theorem Ot(t:Tx K mg w){d:Nat}(F:FM P base cs t d):FM P base cs t (d+1):=by
 show aB P w K mg base (aC P w cs) (kM (d+1)) _ _ _ _;rw[show kM (d+1)=kM d+1+1 by unfold kM;omega];refine t.gc.F.aJ true uR (fun vs H Q E h=>?_) (fun ay A outer s H vs Q E hr h=>?_) (hk:=fun _=>by unfold kM;omega)
 ·obtain⟨ga,dg,la,lb,lc,nv,mk,g,needs,v,gv,af,gn,k,q,B,rfl,_⟩:=h;rfl
 ·obtain⟨ga,dg,la,lb,lc,nv,mk,g,needs,v,gv,af,gn,k,q,B,rfl,G,hq,fE,hk,aW,fF,kS,kN⟩:=h;have tX:az (kM d) _:=hr.mono (by omega);have AU:az 9 _:=hr.mono (by unfold kM;omega);have bj:az 5 _:=hr.mono (by unfold kM;omega);refine⟨_,ak (a9 (c0 (bV iz rfl t.gN rfl (ae (pv 1)<|ae (bw (v:= .ref t.bF.C) rfl t.bF.m rfl) ag))) (ao (aD (aK t.qP (Nb t F) hr aE.passes (ae (pv 0)<|ae (pv 1)<|ae (pv 2) ag)))) a_)<|
   ak (a9 (c0 (bV iz rfl t.gN rfl (ae (pv 1)<|ae (bw (v:= .ref t.bO.C) rfl t.bO.m rfl) ag))) (ao (aD (aK t.qU (Nj t F) hr aE.passes (ae (pv 0)<|ae (pv 1)<|ae (pv 2) ag)))) a_)<|
   ak (a9 (c0 (bV iz rfl t.gN rfl (ae (pv 1)<|ae (bw (v:= .ref t.cq.C) rfl t.cq.m rfl) ag))) (ao (aD (a0 jh aM (bz (pv 0) t.aX.cl t.n_.me (NN (cs:=cs) t) bj t.n_.b .nil aE.passes (ae (aQ (pv 1) rfl) ag))))) a_)<|
   ak (a9 (c0 (bV iz rfl t.gN rfl (ae (pv 1)<|ae (bw (v:= .ref t.b_.C) rfl t.b_.m rfl) ag))) (ao (aD (HJ (u1 hr.units) (pv 2) (aQ (pv 1) rfl) (fun _ _=>rfl)))) a_)<|
   ao (aD (aK t.qL (MV (cs:=cs) t) AU aE.passes (ae (pv 0)<|ae (pv 1)<|ae (TK (own:=[("part",3)]) rfl uR.nd (gf (aQ (pv 1) rfl)) (gS rfl)
    (fun _ _ _ _ _=>dc (i:=3) uR.nd rfl (Or.inl rfl)) (fun _ _ _ _ _=>jT) (fun _ _ _ _ _ hI hC=>aK t.gc F tX (SN aE ⟨rfl,rfl⟩ hI hC).passes (ae (pv 0)<|ae (pv 3)<|ae (pv 2) ag))) ag))),?_⟩
  have hq:Sh t B H (aV t B H d) v q:=hq;cases hq with
  | @lit x dx v w0 b e h=>
   refine aS false (fun Rb hR=>bU rfl (t.cq.ty e) t.uA hR) (fun z=>by cases z) fun _=>?_;refine aS false (fun Rb hR=>bU rfl (t.cq.ty e) t.uB hR) (fun z=>by cases z) fun _=>?_;refine aS true (fun Rb hR=>bU rfl (t.cq.ty e) t.xA hR) (fun _=>?_) fun z=>by cases z
   refine⟨_,rfl,ga,_,_,rfl,G.obj,rfl,_,rfl,x,_,_,_,_,rfl,e,t.cq.cl,t.cq.nn,rfl,ga,dg,la,lb,lc,nv,mk,g,needs,v,w0,rfl,G,h,fun i hi=>?_,fun hn=>kN (OX hn)⟩;have W9:i<g.length:=(List.findIdx?_eq_some_iff_getElem.mp hi).1;exact⟨i,rfl,rfl,by have:=G.le;omega,kS _ (Pr W9 hi) H (ai.refl H)⟩
  | @var x dx n b e=>
   refine aS false (fun Rb hR=>bU rfl (t.b_.ty e) t.ur hR) (fun z=>by cases z) fun _=>?_;refine aS false (fun Rb hR=>bU rfl (t.b_.ty e) t.uu hR) (fun z=>by cases z) fun _=>?_;refine aS false (fun Rb hR=>bU rfl (t.b_.ty e) t.xu hR) (fun z=>by cases z) fun _=>?_;refine aS true (fun Rb hR=>bU rfl (t.b_.ty e) t.xt hR) (fun _=>?_) fun z=>by cases z
   obtain⟨m,hm⟩:=lookup_some (show n∈gn.map (·.1) from fF);have hv:=fE.val n;rw[hm] at hv;refine⟨_,rfl,_,rfl,x,_,_,_,_,rfl,e,t.b_.cl,t.b_.nn,rfl,gv,_,rfl,?_,kS m (Pw hk aW hm) H (ai.refl H)⟩;have:=dM.k (k:= .inr (strOf n)) fE.at_;rw[hv] at this;exact this
  | @let_ x dx n va vb qa qb b e h1 h2=>
   refine aS true (fun Rb hR=>bU rfl (t.bF.ty e) t.uX hR) (fun _=>?_) fun z=>by cases z
   exact⟨_,rfl,_,rfl,_,rfl,ga,dg,la,lb,lc,nv,mk,g,needs,gv,af,gn,k,B,x,dx,n,va,vb,qa,qb,rfl,G,fE,hk,aW,e,h1,h2,fF,kS,kN⟩
  | @sum x dx ls v0 us q0 ss b e bl el ne h0 hs=>
   refine aS false (fun Rb hR=>bU rfl (t.bO.ty e) t.uY hR) (fun z=>by cases z) fun _=>?_;refine aS true (fun Rb hR=>bU rfl (t.bO.ty e) t.uZ hR) (fun _=>?_) fun z=>by cases z
   exact⟨_,rfl,_,rfl,_,rfl,ga,dg,la,lb,lc,nv,mk,g,needs,gv,af,gn,k,B,x,dx,ls,v0,us,q0,ss,rfl,G,fE.less,hk,aW,e,el,h0,hs,fF,kS,kN⟩
  | @all x dx lt lp b e bp ep=>
   refine aS false (fun Rb hR=>bU rfl (t.aU.ty e) t.mq hR) (fun z=>by cases z) fun _=>?_;refine aS false (fun Rb hR=>bU rfl (t.aU.ty e) t.mr hR) (fun z=>by cases z) fun _=>?_;refine aS false (fun Rb hR=>bU rfl (t.aU.ty e) t.qI hR) (fun z=>by cases z) fun _=>?_;refine aS false (fun Rb hR=>bU rfl (t.aU.ty e) t.qB hR) (fun z=>by cases z) fun _=>?_;refine⟨_,rfl,_,rfl,_,rfl,x,_,_,_,_,rfl,e,t.aU.cl,t.aU.nn,rfl,lp,rfl,⟨_,aA.of ep⟩,fun D hD=>?_⟩;refine mD (K:=K) (a:=lp) (xs:=[]) (fun i H'=>ai H H'/\H' D=some (.lst [])) ⟨ai.new hD,au⟩ (fun i H' _ ⟨hs,_⟩=>hs.seq (aA.of ep)) (fun i y H' hi ⟨hs,hl⟩=>by cases hi) (fun H' ⟨hs,hl⟩=>?_);exact⟨ga,dg,la,lb,lc,nv,mk,g,needs,x,dx,lt,lp,D,[],rfl,G.same hs,hl,.inl ⟨hs _ _ e,fun H2 aY=>kS _ Pq H2 (hs.trans aY)⟩⟩
  | @call x dx lt lp wd tv eW tx qs bf b e hw bt et ht bp ep hp kD kC lm i6=>
   refine aS false (fun Rb hR=>bU rfl (t.aU.ty e) t.mq hR) (fun z=>by cases z) fun _=>?_;refine aS false (fun Rb hR=>bU rfl (t.aU.ty e) t.mr hR) (fun z=>by cases z) fun _=>?_;refine aS false (fun Rb hR=>bU rfl (t.aU.ty e) t.qI hR) (fun z=>by cases z) fun _=>?_;refine aS false (fun Rb hR=>bU rfl (t.aU.ty e) t.qB hR) (fun z=>by cases z) fun _=>?_;refine⟨_,rfl,_,rfl,_,rfl,x,_,_,_,_,rfl,e,t.aU.cl,t.aU.nn,rfl,lp,rfl,⟨_,aA.of ep⟩,fun D hD=>?_⟩;have cz:eW.length=qs.length:=Paired.length hp;have Bk:=N3 hw kC fF;refine mD (K:=K) (a:=lp) (xs:=eW) (fun i H'=>ai H H'/\ ∃ms:List Nat,H' D=some (.lst (nums ms))/\ms.length=i/\pO g k (qs.take i) ms/\ ∀m∈ms,m<2^g.length) ⟨ai.new hD,[],au,rfl,.nil,fun m hm=>by cases hm⟩ (fun i H' _ ⟨hs,_⟩=>hs.seq (aA.of ep)) (fun i y H' hi ⟨hs,ms,hl,bH,wW,AR⟩=>?_) (fun H' ⟨hs,ms,hl,bH,wW,AR⟩=>?_)
   ·obtain⟨qi,qf,hQ⟩:=Paired.get hp hi;have LA:i<eW.length:=(List.getElem?_eq_some_iff.mp hi).1;refine⟨rfl,yes ⟨_,rfl,_,rfl,_,rfl,ga,dg,la,lb,lc,nv,mk,g,needs,y,gv,af,gn,k,qi,B,rfl,G.same hs,hQ.same hs,(fE.same hs).less,hk,aW,Bk qi (List.mem_of_getElem? qf),fun m hm H2 aY=>?_,fun hn=>(kN (Pc hw kC (List.mem_of_getElem? qf) hn)).same hs⟩⟩;refine⟨_,aY _ _ hl,?_,ai.cM (hs.trans aY) hD,ms++[m],by rw[au,rk],by rw[List.length_append,bH];rfl,?_,fun m' LG=>?_⟩
    ·rw[a8,bH];have:(shapeOf wd).2.1<=1:=(xY wd hw).2;exact Nat.lt_of_lt_of_le (show i<3 by omega) (by decide)
    ·rw[take_snoc qf];exact Paired.snoc wW hm
    ·rcases List.mem_append.mp LG with h |h
     ·exact AR m' h
     ·rw[List.mem_singleton] at h;rw[h];exact hm.1
   ·rw[cz,List.take_length] at wW;refine⟨ga,dg,la,lb,lc,nv,mk,g,needs,x,dx,lt,lp,D,ms,rfl,G.same hs,hl,.inr ⟨wd,tv,tx,bf,hs _ _ e,hw,hs _ _ et,Paired.c5 (fun u y g=>g.keep fun b xs e=>hs _ _ e) ht,kD,by rw[bH,cz,kC],AR,i6,fun r H2 aY hr=>kS r (hr k qs wW) H2 (hs.trans aY)⟩⟩
theorem uN(t:Tx K mg w): ∀d,FM P base cs t d
 |0=>Oq t
 |d+1=>Ot t (uN t d)
end Bp
namespace L2
open PySem PySem.Spec PyProof.Rows
theorem Ti{x:Str}{g:TG}{tt:TT}{te:TE}{vs:List Nat}{σ:St}{H1:Hp}{D:Addr}{Qd:Hp->Prop}(Pv:Nat->Hp->Prop)(h0:Pv 0 (upd H1 D (.lst [])))
  (hs: ∀i c H,x.cps.toList[i]? =some c->Pv i H->g (.str ⟨#[c]⟩) (wipe σ vs) H fun σ2 H2=>wipe σ2 vs=wipe σ vs/\tt σ2 H2 fun b H3=>
   if b=true then te σ2 H3 fun y H4=> ∃acc,H4 D=some (.lst acc)/\acc.length<sizeLine/\Pv (i+1) (upd H4 D (.lst (acc++[y]))) else Pv (i+1) H3) (hd: ∀H,Pv x.cps.toList.length H->Qd H):
  ∃W:Nat->Nat->Hp->Prop,(∃m,W 0 m (upd H1 D (.lst [])))/\ ∀i m H,W i m H->
   ((sR x).stop i H/\Qd H)∨((sR x).go i H/\ ∃Nx:Hp->Prop,(∀H',Nx H'-> ∃m',m'<m/\W (i+1) m' H')/\ ∀y H',(sR x).jH i H y H'->g y (wipe σ vs) H' fun σ2 H2=>wipe σ2 vs=wipe σ vs/\tt σ2 H2 fun b H3=>
    if b=true then te σ2 H3 fun y H4=> ∃acc,H4 D=some (.lst acc)/\acc.length<sizeLine/\Nx (upd H4 D (.lst (acc++[y]))) else Nx H3):=by
 have hsz:x.cps.toList.length=x.cps.size:=Array.length_toList;refine⟨fun i m H=>m=x.cps.size-i/\i<=x.cps.size/\Pv i H,⟨x.cps.size,by simp,Nat.zero_le _,h0⟩,?_⟩;rintro i m H ⟨rfl,hi,p⟩
 by_cases aW:i<x.cps.size
 ·refine .inr ⟨aW,Pv (i+1),fun H' p'=>⟨x.cps.size-(i+1),by omega,rfl,aW,p'⟩,fun y H' q=>?_⟩;obtain⟨e,c,ec,ey⟩:=q;subst e ey;exact hs i c _ (by simpa using ec) p
 ·have e:i=x.cps.size:=by omega
  subst e;exact .inl ⟨Nat.le_refl _,hd H (by rw[hsz];exact p)⟩
end L2
namespace Bp
open PySem PySem.Spec PyProof.Rows L2 Bq
variable{K:FG}{mg:Str->Option Value}{w:World}{P:Program}{base:Heap}{cs:Addr}
theorem uT(w:VT):(strOf w).cps.toList=w:=by unfold strOf;simp
theorem uD(a b:VT):strOf a++strOf b=strOf (a++b):=by
 rw[<-str_of_list (strOf a++strOf b)]
 congr 1
 show TL.tl (strOf a++strOf b)=a++b;rw[TL.yC];show(strOf a).cps.toList++(strOf b).cps.toList=_;rw[uT,uT]
theorem oY(w:VT):(strOf w).length=w.length:=by unfold strOf;exact List.size_toArray ..
inductive FD(vs:List V)(H:Hp)(Q:VK)(E:XK):Prop
 |mk(x:VT):vs=[.str (strOf x)]->x.length<=200100->eD H (nums x) Q->FD vs H Q E
inductive yf(vs:List V)(H:Hp)(Q:VK)(E:XK):Prop
 |mk(a:Addr)(r:VT):vs=[.ref a]->H a=some (.lst (nums r))->r.length<=200100->eD H (nums (40::(r++[41]))) Q->yf vs H Q E
inductive Fx(vs:List V)(H:Hp)(Q:VK)(E:XK):Prop
 |mk(v:V)(r:VT):vs=[v]->cW H v r->eD H (nums (Vabldl.quote r)) Q->Fx vs H Q E
theorem big:201000<sizeLine:=by decide
theorem jf(t:Tx K mg w):aB P w K mg base (aC P w cs) 5 t.spelled.f t.spelled.fd ["words"] FD:=by
 refine t.spelled.F.aJ true ye (fun vs H Q E h=>?_) (fun ay A outer s H vs Q E hr h=>?_)
 ·obtain⟨x,rfl,_⟩:=h;rfl
 ·obtain⟨x,rfl,hz,k⟩:=h;refine⟨_,ao (aD (lG (own:=[("sign",1)]) rfl ye.nd (TN (pv 0)) (gS rfl) (fun _ _ _ _ _=>dc (i:=1) ye.nd rfl (Or.inl rfl)) (fun _ _ _ _ _=>jT) (fun _ _ _ _ _=>bV (id:="ord") Qi rfl t.J3 rfl (ae (pv 1) ag)))),?_⟩;refine⟨_,rfl,_,rfl,fun D hD=>?_⟩;refine Ti (fun i H'=>ai H H'/\H' D=some (.lst (nums (x.take i)))) ⟨ai.new hD,au⟩ (fun i c H' hc ⟨hs,hl⟩=>?_) (fun H' ⟨hs,hl⟩=>?_)
  ·rw[uT] at hc;have hb:=big;refine⟨rfl,yes ⟨_,rfl,_,rfl,rfl,_,hl,?_,ai.cM hs hD,?_⟩⟩
   ·rw[a8,List.length_take];omega
   ·rw[au,take_snoc hc,rk];rfl
  ·rw[uT,List.take_length] at hl;exact k H' D hs hD hl
theorem xW(t:Tx K mg w):aB P w K mg base (aC P w cs) 6 t.my.f t.my.fd ["row"] yf:=by
 refine t.my.F.aJ true OC (fun vs H Q E h=>?_) (fun ay A outer s H vs Q E hr h=>?_)
 ·obtain⟨a,r,rfl,_⟩:=h;rfl
 ·obtain⟨a,r,rfl,ha,hz,k⟩:=h;refine⟨_,ao (aD (a0 iM (a0 iM (aK t.spelled (jf (cs:=cs) t) hr (ax (cs:=cs)) (ae aZ ag)) (pv 0)) (aK t.spelled (jf (cs:=cs) t) hr (ax (cs:=cs)) (ae aZ ag)))),?_⟩;have hb:=big;refine⟨[40],rfl,by decide,fun H1 l1 s1 gD e1=>?_⟩;refine⟨_,rfl,l1,a,_,_,rfl,rfl,e1,s1 _ _ ha,?_,fun l2 bP=>?_⟩
  ·rw[a8,a8];show 1+r.length<=_;omega
  have s2:=s1.trans (ai.new (o:= .lst (nums [40]++nums r)) bP);refine⟨[41],rfl,by decide,fun H3 l3 s3 wV e3=>?_⟩;refine⟨l2,l3,_,_,rfl,rfl,s3 _ _ au,e3,?_,fun l4 fi=>?_⟩
  ·rw[List.length_append,a8,a8,a8];show 1+r.length+1<=_;omega
  refine k _ l4 ((s2.trans s3).trans (ai.new fi)) ((s2.trans s3).free fi) ?_;rw[au,<-eZ,<-eZ];rfl
theorem Ek(t:Tx K mg w):aB P w K mg base (aC P w cs) 5 t.quoted.f t.quoted.fd ["text"] Fx:=by
 refine t.quoted.F.aJ true PX (fun vs H Q E h=>?_) (fun ay A outer s H vs Q E hr h=>?_)
 ·obtain⟨v,r,rfl,_⟩:=h;rfl
 ·obtain⟨v,r,rfl,⟨p,rfl,ep,hz⟩,k⟩:=h;obtain⟨tq,eq⟩:=t.rY;refine⟨_,ao (aD (a0 iM (a0 iM (dw (ae (bw (v:= .int 34) rfl eq ⟨_,rfl⟩) ag)) (u6 ND rfl t.Jg rfl (ae (pv 0) ag))) (dw (ae (bw (v:= .int 34) rfl eq ⟨_,rfl⟩) ag)))),?_⟩;have hb:=big;refine⟨(by show 1<=sizeLine;decide),fun l1 gD=>?_⟩;have s1:ai H (upd H l1 (.lst [.int 34])):=ai.new gD;refine⟨_,rfl,p,_,rfl,.inr (bW (s1 _ _ ep)),fun l2 bP=>?_⟩;have s2:=s1.trans (ai.new (o:= .lst (nums r)) bP);refine⟨l1,l2,_,_,rfl,rfl,(ai.new bP) _ _ au,au,?_,fun l3 wV=>?_⟩
  ·rw[a8];show 1+r.length<=_;omega
  have s3:=s2.trans (ai.new (o:= .lst ([V.int 34]++nums r)) wV);refine⟨(by show 1<=sizeLine;decide),fun l4 fi=>?_⟩;have s4:=s3.trans (ai.new (o:= .lst [.int 34]) fi);refine⟨l3,l4,_,_,rfl,rfl,(ai.new fi) _ _ au,au,?_,fun l5 tO=>?_⟩
  ·rw[List.length_append,a8];show 1+r.length+1<=_;omega
  refine k _ l5 (s4.trans (ai.new tO)) (s4.free tO) ?_;rw[au];unfold Vabldl.quote;show some (HO.lst (([V.int 34]++nums r)++[V.int 34]))=some (HO.lst (V.int 34::nums (r++[34])));rw[eZ];rfl
theorem HB(wd:String)(tx:List VT)(qs:List Qy)(bf:Option Nat):Vabldl.isLet (Bq.ft wd tx qs bf)=false/\Vabldl.isOp (Bq.ft wd tx qs bf)=false:=by
 unfold Bq.ft;dsimp only
 repeat' (first |exact⟨rfl,rfl⟩ |split)
theorem GW(q:Qy){ss:List (Nat×Qy)}(h:ss≠[]):Vabldl.isLet (sumOf q ss)=false/\Vabldl.isOp (sumOf q ss)=true:=by
 obtain⟨a,s,rfl⟩: ∃a s,ss=a++[s]:=⟨ss.dropLast,ss.getLast h,(List.dropLast_concat_getLast h).symm⟩;rw[show sumOf q (a++[s])= .op s.1 (sumOf q a) s.2 from uU q a s.1 s.2];exact⟨rfl,rfl⟩
def kh(o:Nat):VT:=Vabldl.str (if o=0 then " + " else if o=1 then " - " else " & ")
theorem Gf(o:Nat)(a b:Qy):Vabldl.plain (.op o a b)=Vabldl.parens (Vabldl.isLet a) (Vabldl.plain a)++(kh o++Vabldl.parens (Vabldl.isLet b || Vabldl.isOp b) (Vabldl.plain b)):=rfl
def pU(q:Qy):VT:=Vabldl.parens (Vabldl.isLet q || Vabldl.isOp q) (Vabldl.plain q)
def eR(q:Qy):VT:=Vabldl.parens (Vabldl.isLet q) (Vabldl.plain q)
theorem HQ(o:Nat)(a b:Qy):eR (.op o a b)=eR a++(kh o++pU b):=rfl
theorem Gn(q:Qy): ∀ss:List (Nat×Qy),(eR q).length<=(eR (sumOf q ss)).length
 |[]=>Nat.le_refl _
 |s::ss=>by
  have ih:=Gn (.op s.1 q s.2) ss;rw[HQ,List.length_append] at ih;show(eR q).length<=(eR (sumOf (.op s.1 q s.2) ss)).length;omega
theorem uO(b:Bool)(x:VT):x.length<=(Vabldl.parens b x).length/\(Vabldl.parens b x).length<=x.length+2:=by
 cases b with
 |false=>exact⟨Nat.le_refl _,Nat.le_add_right _ _⟩
 |true=>
  show x.length<=(40::(x++[41])).length/\(40::(x++[41])).length<=x.length+2;rw[List.length_cons,List.length_append];exact⟨by omega,by show x.length+1+1<=_;omega⟩
theorem Sx: ∀o,o<3->((Str.ofString " "++fI o)++Str.ofString " ")=strOf (kh o)/\(Str.ofString " ").length+(fI o).length<=10/\(Str.ofString " "++fI o).length+(Str.ofString " ").length<=10:=by decide +kernel
theorem za: ∀o,(kh o).length=3:=fun o=>by
 unfold kh
 split
 ·decide
 ·split
  ·decide
  ·decide
def kP(d:Nat):Nat:=8+3*d
section
variable{K:FG}{mg:Str->Option Value}{w:World}
theorem Sh.kind{t:Tx K mg w}{B:Addr->Prop}{H:Hp}{R:V->Qy->Prop}{v:V}{q:Qy}(h:Sh t B H R v q): ∃x C,v= .ref x/\eE K H (.ref x) (.ref C)/\PySem.W.kitOne K (.ref C) (.ref t.bF.C)=some (Vabldl.isLet q)/\PySem.W.kitOne K (.ref C) (.ref t.bO.C)=some (Vabldl.isOp q):=by
 cases h with
 |lit b e h=>exact⟨_,_,rfl,t.cq.ty e,t.uA,t.uB⟩
 |var b e=>exact⟨_,_,rfl,t.b_.ty e,t.ur,t.uu⟩
 |let_ b e h1 h2=>exact⟨_,_,rfl,t.bF.ty e,t.uX,t.EU⟩
 | @sum x dx ls v0 us q0 ss b e bl el ne h0 hs=>
  have:=GW q0 ne;exact⟨_,_,rfl,t.bO.ty e,by rw[this.1];exact t.uY,by rw[this.2];exact t.uZ⟩
 |all b e bp ep=>exact⟨_,_,rfl,t.aU.ty e,t.mq,t.mr⟩
 |call b e hw bt et ht bp ep hp kD kC lm i6=>
  exact⟨_,_,rfl,t.aU.ty e,by rw[(HB _ _ _ _).1];exact t.mq,by rw[(HB _ _ _ _).2];exact t.mr⟩
theorem aV.kind{t:Tx K mg w}{B:Addr->Prop}{H:Hp}{v:V}{q:Qy}: ∀{d:Nat},aV t B H d v q-> ∃x C,v= .ref x/\eE K H (.ref x) (.ref C)/\PySem.W.kitOne K (.ref C) (.ref t.bF.C)=some (Vabldl.isLet q)/\PySem.W.kitOne K (.ref C) (.ref t.bO.C)=some (Vabldl.isOp q)
 |0,h=>h.elim
 |d+1,h=>Sh.kind h
inductive vE(t:Tx K mg w)(d:Nat)(F:Qy->VT)(vs:List V)(H:Hp)(Q:VK)(E:XK):Prop
 |mk(v:V)(q:Qy)(B:Addr->Prop):vs=[v]->aV t B H d v q->(Vabldl.plain q).length<=200000->eD H (nums (F q)) Q->vE t d F vs H Q E
variable{P:Program}{base:Heap}{cs:Addr}{d:Nat}
abbrev FP(P:Program)(base:Heap)(cs:Addr)(t:Tx K mg w)(d:Nat):Prop:=aB P w K mg base (aC P w cs) (kP d) t.iC.f t.iC.fd ["tree"] (vE t d Vabldl.plain)
theorem Nc(t:Tx K mg w)(F:FP P base cs t d):aB P w K mg base (aC P w cs) (kP d+1) t.qQ.f t.qQ.fd ["tree"] (vE t d eR):=by
 refine t.qQ.F.aJ true CS (fun vs H Q E h=>?_) (fun ay A outer s H vs Q E hr h=>?_) (hk:=fun _=>by unfold kP;omega)
 ·obtain⟨v,q,B,rfl,_⟩:=h;rfl
 ·obtain⟨v,q,B,rfl,hq,hz,k⟩:=h;have bB:az 6 _:=hr.mono (by unfold kP;omega);refine⟨_,ak (aT 1 CS.nd (aK t.iC F hr (ax (cs:=cs)) (ae (pv 0) ag)))<|
   ao (aD (vm (c0 (bV iz rfl t.gN rfl (ae (pv 0)<|ae (bw (v:= .ref t.bF.C) rfl t.bF.m rfl) ag))) (aK t.my (xW (cs:=cs) t) bB (ax (cs:=cs)) (ae (pv 1) ag)) (pv 1))),?_⟩
  refine⟨_,rfl,v,q,B,rfl,hq,hz,fun H1 l s1 hl e1=>?_⟩;obtain⟨x,C,rfl,ty,k1,k2⟩:=(hq.same s1).kind;refine⟨_,rfl,x,C,_,_,rfl,ty,k1,_,rfl,bS (fun z=>?_) fun z=>?_⟩
  ·refine⟨_,rfl,l,_,rfl,e1,by omega,fun H2 l2 s2 bP e2=>?_⟩;refine k H2 l2 (s1.trans s2) (s1.free bP) ?_;rw[e2];unfold eR;rw[z];rfl
  ·refine⟨_,rfl,k H1 l s1 hl ?_⟩;rw[e1];unfold eR;rw[z];rfl
theorem Ng(t:Tx K mg w)(F:FP P base cs t d):aB P w K mg base (aC P w cs) (kP d+1) t.qR.f t.qR.fd ["tree"] (vE t d pU):=by
 refine t.qR.F.aJ true CT (fun vs H Q E h=>?_) (fun ay A outer s H vs Q E hr h=>?_) (hk:=fun _=>by unfold kP;omega)
 ·obtain⟨v,q,B,rfl,_⟩:=h;rfl
 ·obtain⟨v,q,B,rfl,hq,hz,k⟩:=h;have bB:az 6 _:=hr.mono (by unfold kP;omega);refine⟨_,ak (aT 1 CT.nd (aK t.iC F hr (ax (cs:=cs)) (ae (pv 0) ag)))<|
   ao (aD (vm (PW.pt (v7 (c0 (bV iz rfl t.gN rfl (ae (pv 0)<|ae (bw (v:= .ref t.bF.C) rfl t.bF.m rfl) ag))) (vP (c0 (bV iz rfl t.gN rfl (ae (pv 0)<|ae (bw (v:= .ref t.bO.C) rfl t.bO.m rfl) ag)))))) (aK t.my (xW (cs:=cs) t) bB (ax (cs:=cs)) (ae (pv 1) ag)) (pv 1))),?_⟩
  refine⟨_,rfl,v,q,B,rfl,hq,hz,fun H1 l s1 hl e1=>?_⟩;obtain⟨x,C,rfl,ty,k1,k2⟩:=(hq.same s1).kind;have K7:(Vabldl.isLet q || Vabldl.isOp q)=true->mY yf [] E0 (iO (dU 1) iT) [some (.ref x),some (.ref l)] H1 Q:=fun z=>by
   refine⟨_,rfl,l,_,rfl,e1,by omega,fun H2 l2 s2 bP e2=>?_⟩;refine k H2 l2 (s1.trans s2) (s1.free bP) ?_;rw[e2];unfold pU;rw[z];rfl
  refine⟨_,rfl,x,C,_,_,rfl,ty,k1,_,rfl,bS (fun z=>?_) fun z=>⟨_,rfl,x,C,_,_,rfl,ty,k2,_,rfl,bS (fun z2=>?_) fun z2=>?_⟩⟩
  ·exact pR (K7 (by rw[z];rfl))
  ·exact K7 (by rw[z,z2];rfl)
  ·refine⟨_,rfl,k H1 l s1 hl ?_⟩;rw[e1];unfold pU;rw[z,z2];rfl
inductive JA(t:Tx K mg w)(d:Nat)(vs:List V)(H:Hp)(Q:VK)(E:XK):Prop
 |mk(x dx ls:Addr)(v0:V)(us:List V)(q0:Qy)(ss:List (Nat×Qy))(B:Addr->Prop):vs=[.ref x]->H x=some (.ins t.bO.C dx (sumF v0 (.ref ls)))->H ls=some (.lst us)->ss≠[]->aV t B H d v0 q0->Paired (pz H (aV t B H d)) us ss->(Vabldl.plain (sumOf q0 ss)).length<=200000->eD H (nums (Vabldl.plain (sumOf q0 ss))) Q->JA t d vs H Q E
inductive Jv(t:Tx K mg w)(d:Nat)(vs:List V)(H:Hp)(Q:VK)(E:XK):Prop
 |mk(x dx:Addr)(n:VT)(va vb:V)(qa qb:Qy)(B:Addr->Prop):vs=[.ref x]->H x=some (.ins t.bF.C dx (we (.str (strOf n)) va vb))->aV t B H d va qa->aV t B H d vb qb->(Vabldl.plain (.let_ n qa qb)).length<=200000->eD H (nums (Vabldl.plain (.let_ n qa qb))) Q->Jv t d vs H Q E
theorem NP(t:Tx K mg w)(F:FP P base cs t d):aB P w K mg base (aC P w cs) (kP d+2) t.plain_sum.f t.plain_sum.fd ["tree"] (JA t d):=by
 refine t.plain_sum.F.aJ true uC (fun vs H Q E h=>?_) (fun ay A outer s H vs Q E hr h=>?_) (hk:=fun _=>by unfold kP;omega)
 ·obtain⟨x,dx,ls,v0,us,q0,ss,B,rfl,_⟩:=h;rfl
 ·obtain⟨x,dx,ls,v0,us,q0,ss,B,rfl,ex,tf,bo,h0,hs,hz,k⟩:=h;have bj:az 5 _:=hr.mono (by unfold kP;omega);refine⟨_,ak (aT 1 uC.nd (aK t.qQ (Nc t F) hr (ax (cs:=cs)) (ae (aQ (pv 0) rfl) ag)))<|
   ak (jW eu rfl (gf (aQ (pv 0) rfl)) (zp rfl (pd (dc (i:=2) uC.nd rfl (Or.inl rfl)) (pd (dc (i:=3) uC.nd rfl (Or.inl rfl)) y6)))
    (ak (bA (eQ PySem.F.plainAttrs_list PySem.F.slot_list_extend PySem.F.type_list_extend oU (pv 1) (ae (aK t.spelled (jf (cs:=cs) t) bj (ax (cs:=cs)) (ae (a0 qY (a0 qY aZ (pv 2)) aZ) ag)) ag)))<|
     ao (bA (eQ PySem.F.plainAttrs_list PySem.F.slot_list_extend PySem.F.type_list_extend oU (pv 1) (ae (aK t.qR (Ng t F) hr (ax (cs:=cs)) (ae (pv 3) ag)) ag)))))<|
   ao (aD (pv 1)),?_⟩
  have hb:=big;have Mh:eR (sumOf q0 ss)=Vabldl.plain (sumOf q0 ss):=by unfold eR;rw[(GW q0 bo).1];rfl
  have part: ∀i,(eR (sumOf q0 (ss.take i))).length<=200000:=fun i=>by
   have:=Gn (sumOf q0 (ss.take i)) (ss.drop i);rw[<-D8,List.take_append_drop,Mh] at this;omega
  have p0:(Vabldl.plain q0).length<=200000:=by
   have h1:=part 0;rw[List.take_zero] at h1;have h2:=(uO (Vabldl.isLet q0) (Vabldl.plain q0)).1;have h1:(Vabldl.parens (Vabldl.isLet q0) (Vabldl.plain q0)).length<=200000:=h1;omega
  refine⟨_,rfl,x,_,_,_,_,rfl,ex,t.bO.cl,t.bO.nn,rfl,v0,q0,B,rfl,h0,p0,fun H1 l s1 hl e1=>?_⟩;refine⟨_,rfl,x,_,_,_,_,rfl,s1 _ _ ex,t.bO.cl,t.bO.nn,rfl,ls,rfl,⟨_,aA.of (s1 _ _ tf)⟩,?_⟩;refine mz (K:=K) (a:=ls) (xs:=us) (fun i σ H'=>ai H H'/\ ∃v2 v3,σ=[some (.ref x),some (.ref l),v2,v3]/\H' l=some (.lst (nums (eR (sumOf q0 (ss.take i)))))) ⟨s1,_,_,rfl,by rw[List.take_zero];exact e1⟩ (fun i σ H' _ ⟨ip,_⟩=>aA.of (ip _ _ tf)) ?_ ?_
  ·rintro i y σ H' hi ⟨s2,v2,v3,rfl,el⟩;obtain⟨st,bL,T,u,rfl,eT,ho,hu⟩:=Paired.get hs hi;obtain⟨g1,g2,g3⟩:=Sx st.1 ho;have nx:eR (sumOf q0 (ss.take (i+1)))=(eR (sumOf q0 (ss.take i))++kh st.1)++pU st.2:=by
    rw[take_snoc bL,show sumOf q0 (ss.take i++[st])= .op st.1 (sumOf q0 (ss.take i)) st.2 from uU ..,HQ,List.append_assoc]
   have XN:=part (i+1);rw[nx,List.length_append,List.length_append] at XN;have lp:(Vabldl.plain st.2).length<=(pU st.2).length:=(uO _ _).1;refine⟨T,_,rfl,bu.of (s2 _ _ eT),rfl,_,_,rfl,_,_,rfl,rfl,?_⟩;refine⟨_,rfl,.inl ⟨rfl,_,aA.of el⟩,_,rfl,_,_,rfl,rfl,Nat.le_trans g2 (by decide),_,_,rfl,rfl,Nat.le_trans g3 (by decide),kh st.1,(by rw[g1]<;>rfl),by rw[za];decide,fun H3 l3 s3 wV e3=>?_⟩;have wG:=s3 _ _ el;refine⟨l,l3,_,_,rfl,rfl,wG,e3,by rw[a8,a8];omega,?_⟩;rw[<-eZ];have s4:ai H (upd H3 l (.lst (nums (eR (sumOf q0 (ss.take i))++kh st.1)))):=ai.cM (s2.trans s3) hl;refine⟨_,rfl,.inl ⟨rfl,_,aA.of au⟩,_,rfl,u,st.2,B,rfl,hu.same s4,by omega,fun H5 l5 s5 tO e5=>?_⟩;have WA:=s5 _ _ (au (H:=H3) (a:=l) (o:= .lst (nums (eR (sumOf q0 (ss.take i))++kh st.1))));refine⟨l,l5,_,_,rfl,rfl,WA,e5,by rw[a8,a8,List.length_append];omega,?_⟩;refine⟨ai.cM (s4.trans s5) hl,_,_,rfl,?_⟩;rw[au,<-eZ,nx]
  ·rintro σ H' ⟨s2,v2,v3,rfl,el⟩;rw[Paired.length hs,List.take_length,Mh] at el;exact⟨_,rfl,k H' l s2 hl el⟩
theorem NO(t:Tx K mg w)(F:FP P base cs t d):aB P w K mg base (aC P w cs) (kP d+1) t.rA.f t.rA.fd ["tree"] (Jv t d):=by
 refine t.rA.F.aJ true DD (fun vs H Q E h=>?_) (fun ay A outer s H vs Q E hr h=>?_) (hk:=fun _=>by unfold kP;omega)
 ·obtain⟨x,dx,n,va,vb,qa,qb,B,rfl,_⟩:=h;rfl
 ·obtain⟨x,dx,n,va,vb,qa,qb,B,rfl,ex,ha,hb,hz,k⟩:=h;have bj:az 5 _:=hr.mono (by unfold kP;omega);refine⟨_,ak (aT 1 DD.nd (aK t.spelled (jf (cs:=cs) t) bj (ax (cs:=cs)) (ae (a0 qY (a0 qY aZ (aQ (pv 0) rfl)) aZ) ag)))<|
   ao (aD (a0 iM (a0 iM (a0 iM (pv 1) (aK t.iC F hr (ax (cs:=cs)) (ae (aQ (pv 0) rfl) ag))) (aK t.spelled (jf (cs:=cs) t) bj (ax (cs:=cs)) (ae aZ ag))) (aK t.iC F hr (ax (cs:=cs)) (ae (aQ (pv 0) rfl) ag)))),?_⟩
  have Yv:=big;have pe:Vabldl.plain (.let_ n qa qb)=(((Vabldl.str "let $"++n)++Vabldl.str " = ")++Vabldl.plain qa)++Vabldl.str " in "++Vabldl.plain qb:=by
   show Vabldl.str "let $"++(n++(Vabldl.str " = "++(Vabldl.plain qa++(Vabldl.str " in "++Vabldl.plain qb))))=_;simp only [List.append_assoc]
  have l1:(Vabldl.str "let $").length=5:=by decide
  have l2:(Vabldl.str " = ").length=3:=by decide
  have l3:(Vabldl.str " in ").length=4:=by decide
  rw[pe,List.length_append,List.length_append,List.length_append,List.length_append,List.length_append,l1,l2,l3] at hz;rw[pe] at k;have st:(Str.ofString "let $"++strOf n)++Str.ofString " = "=strOf ((Vabldl.str "let $"++n)++Vabldl.str " = "):=by
   rw[show Str.ofString "let $"=strOf (Vabldl.str "let $") by decide +kernel,show Str.ofString " = "=strOf (Vabldl.str " = ") by decide +kernel,uD,uD]
  refine⟨_,rfl,x,_,_,_,_,rfl,ex,t.bF.cl,t.bF.nn,rfl,_,_,rfl,rfl,?_,_,_,rfl,rfl,?_,_,(by rw[st]<;>rfl),?_,fun H1 a1 s1 YS e1=>?_⟩
  ·rw[show Str.ofString "let $"=strOf (Vabldl.str "let $") by decide +kernel,oY,oY,l1];omega
  ·rw[show Str.ofString "let $"=strOf (Vabldl.str "let $") by decide +kernel,show Str.ofString " = "=strOf (Vabldl.str " = ") by decide +kernel,uD,oY,oY,List.length_append,l1,l2];omega
  ·rw[List.length_append,List.length_append,l1,l2];omega
  refine⟨_,rfl,_,rfl,x,_,_,_,_,rfl,s1 _ _ ex,t.bF.cl,t.bF.nn,rfl,va,qa,B,rfl,ha.same s1,by omega,fun H2 a2 s2 YT e2=>?_⟩;refine⟨a1,a2,_,_,rfl,rfl,s2 _ _ e1,e2,?_,fun a3 WS=>?_⟩
  ·rw[a8,a8,List.length_append,List.length_append,l1,l2];omega
  rw[<-eZ];have s3:=(s1.trans s2).trans (ai.new (o:= .lst (nums (((Vabldl.str "let $"++n)++Vabldl.str " = ")++Vabldl.plain qa))) WS);refine⟨_,(by rw[show Str.ofString " in "=strOf (Vabldl.str " in ") by decide +kernel]<;>rfl),by decide,fun H4 a4 s4 YU e4=>?_⟩;refine⟨a3,a4,_,_,rfl,rfl,s4 _ _ au,e4,?_,fun a5 WT=>?_⟩
  ·rw[a8,a8,List.length_append,List.length_append,List.length_append,l1,l2,l3];omega
  rw[<-eZ];have s5:=(s3.trans s4).trans (ai.new (o:= .lst (nums ((((Vabldl.str "let $"++n)++Vabldl.str " = ")++Vabldl.plain qa)++Vabldl.str " in "))) WT);refine⟨_,rfl,x,_,_,_,_,rfl,s5 _ _ ex,t.bF.cl,t.bF.nn,rfl,vb,qb,B,rfl,hb.same s5,by omega,fun H6 a6 s6 YV e6=>?_⟩;refine⟨a5,a6,_,_,rfl,rfl,s6 _ _ au,e6,?_,fun a7 Lr=>?_⟩
  ·rw[a8,a8,List.length_append,List.length_append,List.length_append,List.length_append,l1,l2,l3];omega
  rw[<-eZ];exact k _ a7 ((s5.trans s6).trans (ai.new Lr)) ((s5.trans s6).free Lr) au
end
abbrev gy:Vabldl.Text:=Vabldl.str ", "
def gl:List VT->VT
 |[]=>[]
 |[a]=>a
 |a::b::r=>a++(gy++gl (b::r))
theorem rR(p:VT): ∀(rows:List VT),rows≠[]->gl (rows++[p])=gl rows++(gy++p)
 |[],h=>absurd rfl h
 |[a],_=>rfl
 |a::b::r,_=>by
  show a++(gy++gl ((b::r)++[p]))=(a++(gy++gl (b::r)))++(gy++p);rw[rR p (b::r) (by simp)];simp only [List.append_assoc]
theorem Oc(rows:List VT)(p:VT):(gl rows).length<=(gl (rows++[p])).length/\p.length<=(gl (rows++[p])).length:=by
 cases rows with
 |nil=>exact⟨Nat.zero_le _,Nat.le_refl _⟩
 |cons a r=>rw[rR p (a::r) (by simp),List.length_append,List.length_append];omega
theorem Ho{rows:List VT}: ∀(k i:Nat),(gl (rows.take i)).length<=(gl (rows.take (i+k))).length
 |0,i=>Nat.le_refl _
 |k+1,i=>by
  refine Nat.le_trans (Ho k i) ?_;cases h:rows[i+k]? with
  |none=>rw[List.take_of_length_le (List.getElem?_eq_none_iff.mp h),List.take_of_length_le (Nat.le_trans (List.getElem?_eq_none_iff.mp h) (by omega))];exact Nat.le_refl _
  |some p=>rw[show i+(k+1)=(i+k)+1 by omega,take_snoc h];exact(Oc _ p).1
theorem S7(rows:List VT)(i:Nat):(gl (rows.take i)).length<=(gl rows).length:=by
 have:=Ho (rows:=rows) rows.length i;rw[List.take_of_length_le (show rows.length<=i+rows.length by omega)] at this;exact this
theorem Uu{rows:List VT}(h:rows≠[])(hn: ∀p∈rows,p≠[]):gl rows≠[]:=by
 match rows,h with
 |[a],_=>exact hn a (by simp)
 |a::b::r,_=>
  show a++_≠[];intro e;exact hn a (by simp) (List.append_eq_nil_iff.mp e).1
theorem Q2(q:Qy):Vabldl.plain q≠[]:=by
 cases q with
 |op o a b=>
  rw[Gf];intro e;have:=(List.append_eq_nil_iff.mp (List.append_eq_nil_iff.mp e).2).1;have h:=za o;rw[this] at h;cases h
 |lit t=>intro e;cases e
 |var v=>intro e;cases e
 |_=>intro e;exact absurd (congrArg List.length e) (by simp [Vabldl.plain,Vabldl.call,Vabldl.str])
def jt:Option Nat->List VT
 |none=>[]
 |some k=>[Vabldl.decimal k]
theorem C6{wd:String}(hw:wd∈cD){tx:List VT}{qs:List Qy}{bf:Option Nat}(h1:tx.length=(shapeOf wd).1)(h2:qs.length=(shapeOf wd).2.1+1)(h3:(shapeOf wd).2.2=false->bf=none):
  Vabldl.plain (Bq.ft wd tx qs bf)=Vabldl.call wd (gl (tx.map Vabldl.quote++qs.map Vabldl.plain++jt bf)):=by
 simp only [cD,List.mem_cons,List.not_mem_nil,or_false] at hw;rcases hw with rfl |rfl |rfl |rfl |rfl |rfl |rfl |rfl |rfl |rfl
 ·obtain⟨a,rfl⟩:=cI h2;have e:=List.eq_nil_of_length_eq_zero h1;subst e;cases bf with
  |none=>show Vabldl.call "deps" (Vabldl.plain a++[])=Vabldl.call "deps" (Vabldl.plain a);rw[List.append_nil]
  |some k=>rfl
 ·obtain⟨a,b,rfl⟩:=hU h2;have e:=List.eq_nil_of_length_eq_zero h1;subst e;cases bf with
  |none=>show Vabldl.call "needers" (Vabldl.plain a++(gy++(Vabldl.plain b++[])))=Vabldl.call "needers" (Vabldl.plain a++(gy++Vabldl.plain b));rw[List.append_nil]
  |some k=>rfl
 ·have:=h3 rfl;subst this;obtain⟨a,b,rfl⟩:=hU h2;have e:=List.eq_nil_of_length_eq_zero h1;subst e;rfl
 ·have:=h3 rfl;subst this;obtain⟨a,b,rfl⟩:=hU h2;have e:=List.eq_nil_of_length_eq_zero h1;subst e;rfl
 ·have:=h3 rfl;subst this;obtain⟨a,rfl⟩:=cI h2;obtain⟨y,rfl⟩:=vz h1;rfl
 ·have:=h3 rfl;subst this;obtain⟨a,rfl⟩:=cI h2;obtain⟨y,rfl⟩:=vz h1;rfl
 ·have:=h3 rfl;subst this;obtain⟨a,rfl⟩:=cI h2;obtain⟨y,z,rfl⟩:=IE h1;rfl
 ·have:=h3 rfl;subst this;obtain⟨a,rfl⟩:=cI h2;have e:=List.eq_nil_of_length_eq_zero h1;subst e;rfl
 ·have:=h3 rfl;subst this;obtain⟨a,rfl⟩:=cI h2;have e:=List.eq_nil_of_length_eq_zero h1;subst e;rfl
 ·have:=h3 rfl;subst this;obtain⟨a,rfl⟩:=cI h2;have e:=List.eq_nil_of_length_eq_zero h1;subst e;rfl
theorem vv: ∀k,k<=99->Str.ofString (toString ((k:Nat):Int))=strOf (Vabldl.decimal k):=by decide +kernel
theorem Hk(k:Nat):(Vabldl.decimal k).length<=2:=by unfold Vabldl.decimal;split<;>simp
inductive LX(N:Addr->Prop)(H:Hp)(v:V)(row:VT):Prop
 |mk a:v= .ref a-> ¬N a->H a=some (.lst (nums row))->LX N H v row
theorem LX.same{N:Addr->Prop}{H H':Hp}{v:V}{row:VT}(h:LX N H v row)(s:ai H H'):LX N H' v row:=let⟨a,e,n,g⟩:=h;⟨a,e,n,s _ _ g⟩
theorem LX.upd{N:Addr->Prop}{H:Hp}{v:V}{row:VT}{D:Addr}{o:HO}(h:LX N H v row)(hD:N D):LX N (L2.upd H D o) v row:=let⟨a,e,n,g⟩:=h;⟨a,e,n,by rw[aj (fun q=>n (by rw[q];exact hD))];exact g⟩
theorem LX.weak{N N':Addr->Prop}{H:Hp}{v:V}{row:VT}(h:LX N H v row)(s: ∀b,N' b->N b):LX N' H v row:=let⟨a,e,n,g⟩:=h;⟨a,e,fun q=>n (s a q),g⟩
section
variable{K:FG}{mg:Str->Option Value}{w:World}
inductive GN(t:Tx K mg w)(d:Nat)(vs:List V)(H:Hp)(Q:VK)(E:XK):Prop
 |mk(x dx lt lp:Addr)(wd:String)(tv eW:List V)(tx:List VT)(qs:List Qy)(bf:Option Nat)(B:Addr->Prop):vs=[.ref x]->H x=some (.ins t.aU.C dx (jo (.str (Str.ofString wd)) (.ref lt) (.ref lp) (iQ bf)))->H lt=some (.lst tv)->Paired (cW H) tv tx->H lp=some (.lst eW)->Paired (aV t B H d) eW qs->(∀l,bf=some l->l<=99)->tx.length<=2->qs.length<=2->(∀q∈qs,(Vabldl.plain q).length<=200000)->(∀H' l us,ai H H'->H l=none->H' l=some (.lst us)->Paired (LX (· =l) H') us (tx.map Vabldl.quote++qs.map Vabldl.plain++jt bf)->Q (.ref l) H')->GN t d vs H Q E
theorem Paired.append{α β:Type}{P:α->β->Prop}{xs Mm:List α}{ys Mn:List β}(p:Paired P xs ys)(p':Paired P Mm Mn):Paired P (xs++Mm) (ys++Mn):=by
 induction p with
 |nil=>exact p'
 |cons a b ih=>exact .cons a ih
variable{P:Program}{base:Heap}{cs:Addr}{d:Nat}
theorem Nh(t:Tx K mg w)(F:FP P base cs t d):aB P w K mg base (aC P w cs) (kP d+1) t.qS.f t.qS.fd ["tree"] (GN t d):=by
 refine t.qS.F.aJ true qF (fun vs H Q E h=>?_) (fun ay A outer s H vs Q E hr h=>?_) (hk:=fun _=>by unfold kP;omega)
 ·obtain⟨x,dx,lt,lp,wd,tv,eW,tx,qs,bf,B,rfl,_⟩:=h;rfl
 ·obtain⟨x,dx,lt,lp,wd,tv,eW,tx,qs,bf,B,rfl,ex,et,ht,ep,hp,lm,l2,Zc,Xd,k⟩:=h;have bj:az 5 _:=hr.mono (by unfold kP;omega);refine⟨_,ak (yR (i:=1) (own:=[("text",2)]) rfl qF.nd rfl rfl (zd rfl rfl rfl rfl) (gf (aQ (pv 0) rfl)) (gS rfl)
    (fun _ _ _ _ _=>dc (i:=2) qF.nd rfl (Or.inl rfl)) (fun _ _ _ _ _=>jT) (fun _ _ _ _ _=>aK t.quoted (Ek (cs:=cs) t) bj (ax (cs:=cs)) (ae (pv 2) ag)))<|
   ak (bA (eQ PySem.F.plainAttrs_list PySem.F.slot_list_extend PySem.F.type_list_extend oU (pv 1) (ae (lG (own:=[("part",3)]) rfl qF.nd (gf (aQ (pv 0) rfl)) (gS rfl)
    (fun _ _ _ _ _=>dc (i:=3) qF.nd rfl (Or.inl rfl)) (fun _ _ _ _ _=>jT) (fun _ _ _ _ _=>aK t.iC F hr (ax (cs:=cs)) (ae (pv 3) ag))) ag)))<|
   ak (a9 (bg Sf (aQ (pv 0) rfl) r_ (bc _))
    (ao (bA (eQ PySem.F.plainAttrs_list PySem.F.slot_list_append PySem.F.type_list_append iD (pv 1) (ae (aK t.spelled (jf (cs:=cs) t) bj (ax (cs:=cs)) (ae (u6 NF rfl t.J4 rfl (ae (aQ (pv 0) rfl) ag)) ag)) ag)))) a_)<|
   ao (aD (pv 1)),?_⟩
  have hb:=big;have qh:tv.length=tx.length:=Paired.length ht;have cz:eW.length=qs.length:=Paired.length hp;refine⟨_,rfl,x,_,_,_,_,rfl,ex,t.aU.cl,t.aU.nn,rfl,lt,rfl,⟨_,aA.of et⟩,fun pc lZ=>?_⟩;refine mD (K:=K) (a:=lt) (xs:=tv) (fun i H'=>ai H H'/\ ∃us,H' pc=some (.lst us)/\us.length=i/\Paired (LX (· =pc) H') us ((tx.take i).map Vabldl.quote)) ⟨ai.new lZ,[],au,rfl,.nil⟩ (fun i H' _ ⟨hs,_⟩=>hs.seq (aA.of et)) (fun i y H' hi ⟨hs,us,hl,bH,tU⟩=>?_) (fun H1 ⟨s1,uk,e1,ke,L_⟩=>?_)
  ·obtain⟨y',XB,hT⟩:=Paired.get ht hi;refine⟨rfl,yes ⟨_,rfl,y,y',rfl,hT.keep (fun b xs e=>hs _ _ e),fun H2 l2 s2 bP e2=>?_⟩⟩;have aW:=(List.getElem?_eq_some_iff.mp hi).1;have nl:l2≠pc:=fun q=>by rw[q,hl] at bP;cases bP
   refine⟨_,s2 _ _ hl,by omega,ai.cM (hs.trans s2) lZ,us++[.ref l2],au,by rw[List.length_append,bH];rfl,?_⟩;rw[take_snoc XB,List.map_append];exact Paired.snoc (Paired.c5 (fun v r g=>(g.same s2).upd rfl) tU) ⟨l2,rfl,nl,by rw[aj nl];exact e2⟩
  rw[qh,List.take_length] at L_;dsimp only [d6,de,Ends.d9];refine⟨_,rfl,.inl ⟨rfl,_,aA.of e1⟩,_,rfl,x,_,_,_,_,rfl,s1 _ _ ex,t.aU.cl,t.aU.nn,rfl,lp,rfl,⟨_,aA.of (s1 _ _ ep)⟩,fun D hD=>?_⟩;have nD:D≠pc:=fun q=>by rw[q,e1] at hD;cases hD
  refine mD (K:=K) (a:=lp) (xs:=eW) (fun i H'=>ai H1 H'/\ ∃us,H' D=some (.lst us)/\us.length=i/\Paired (LX (fun b=>b=pc∨b=D) H') us ((qs.take i).map Vabldl.plain)) ⟨ai.new hD,[],au,rfl,.nil⟩ (fun i H' _ ⟨hs,_⟩=>hs.seq (aA.of (s1 _ _ ep))) (fun i y H' hi ⟨hs,us,hl,bH,tU⟩=>?_) (fun H2 ⟨s2,um,e2,sF,uh⟩=>?_)
  ·obtain⟨qi,qf,hQ⟩:=Paired.get hp hi;have aW:=(List.getElem?_eq_some_iff.mp hi).1;refine⟨rfl,yes ⟨_,rfl,y,qi,B,rfl,(hQ.same s1).same hs,Xd qi (List.mem_of_getElem? qf),fun H2 l2 s2 bP e2=>?_⟩⟩;have nl:l2≠D:=fun q=>by rw[q,hl] at bP;cases bP
   have w_:l2≠pc:=fun q=>by rw[q,hs _ _ e1] at bP;cases bP
   refine⟨_,s2 _ _ hl,by omega,ai.cM (hs.trans s2) hD,us++[.ref l2],au,by rw[List.length_append,bH];rfl,?_⟩;rw[take_snoc qf,List.map_append];exact Paired.snoc (Paired.c5 (fun v r g=>(g.same s2).upd (.inr rfl)) tU) ⟨l2,rfl,fun z=>z.elim w_ nl,by rw[aj nl];exact e2⟩
  rw[cz,List.take_length] at uh;have Wm:=s2 _ _ e1;refine⟨pc,D,_,_,rfl,rfl,Wm,e2,by omega,?_⟩;have s3:ai H (upd H2 pc (.lst (uk++um))):=ai.cM (s1.trans s2) lZ;have Ma:Paired (LX (· =pc) (upd H2 pc (.lst (uk++um)))) (uk++um) (tx.map Vabldl.quote++qs.map Vabldl.plain):=
   Paired.append (Paired.c5 (fun v r g=>(g.same s2).upd rfl) L_) (Paired.c5 (fun v r g=>(g.weak fun b z=> .inl z).upd rfl) uh)
  generalize hH3:upd H2 pc (.lst (uk++um))=H3 at*;have e3:H3 pc=some (.lst (uk++um)):=by rw[<-hH3];exact au
  dsimp only [rW,d6,de,Ends.d9];refine y0 (!decide (iQ bf=V.aN)) (fun σ' H'=> ∃us,σ'=[some (.ref x),some (.ref pc),none,none]/\ai H H'/\H' pc=some (.lst us)/\Paired (LX (· =pc) H') us (tx.map Vabldl.quote++qs.map Vabldl.plain++jt bf)) (fun Rb hR=>⟨_,rfl,x,_,_,_,_,rfl,s3 _ _ ex,t.aU.cl,t.aU.nn,rfl,rfl,_,rfl,hR⟩) (fun z N hN=>?_) (fun z=>?_) ?_
  ·cases bf with
   |none=>cases z
   |some kk=>
    have WM:=lm kk rfl;refine⟨_,rfl,.inl ⟨rfl,_,aA.of e3⟩,_,rfl,x,_,_,_,_,rfl,s3 _ _ ex,t.aU.cl,t.aU.nn,rfl,_,rfl,?_,_,(by rw[vv kk WM]<;>rfl),?_,fun H4 l4 s4 fi e4=>?_⟩
    ·show((kk:Nat):Int).natAbs.log2<1920;rw[Int.natAbs_natCast];exact Nat.lt_of_le_of_lt (Nat.log2_le_self kk) (by omega)
    ·have:=Hk kk;omega
    have nl:l4≠pc:=fun q=>by rw[q,e3] at fi;cases fi
    refine⟨pc,_,_,rfl,rfl,s4 _ _ e3,by rw[List.length_append];omega,?_⟩;refine hN _ _ ⟨_,rfl,ai.cM (s3.trans s4) lZ,au,?_⟩;exact Paired.snoc (Paired.c5 (fun v r g=>(g.same s4).upd rfl) Ma) ⟨l4,rfl,nl,by rw[aj nl];exact e4⟩
  ·cases bf with
   |none=>exact⟨_,rfl,s3,e3,by rw[show jt none=[] from rfl,List.append_nil];exact Ma⟩
   |some kk=>exact absurd z (by show(!decide (V.int _=V.aN))≠false;rw[decide_eq_false (fun q=>by cases q)];decide)
  ·rintro σ' H' ⟨us,rfl,s4,e4,Ba⟩;exact⟨_,rfl,k H' pc us s4 lZ e4 Ba⟩
end
theorem Paired.VP{α β:Type}{P Q:α->β->Prop}{xs:List α}{ys:List β}(p:Paired P xs ys)(h: ∀a b,b∈ys->P a b->Q a b):Paired Q xs ys:=by
 induction p with
 |nil=>exact .nil
 |cons a b ih=>exact .cons (h _ _ (by simp) a) (ih fun a b hb=>h a b (List.mem_cons_of_mem _ hb))
section
variable{K:FG}{mg:Str->Option Value}{w:World}
inductive Ib(t:Tx K mg w)(d:Nat)(vs:List V)(H:Hp)(Q:VK)(E:XK):Prop
 |mk(x dx lt lp:Addr):vs=[.ref x]->((H x=some (.ins t.aU.C dx (jo (.str "all") (.ref lt) (.ref lp) .aN))/\eD H (nums (Vabldl.plain .all)) Q)∨
  ∃(wd:String)(tv eW:List V)(tx:List VT)(qs:List Qy)(bf:Option Nat)(B:Addr->Prop),H x=some (.ins t.aU.C dx (jo (.str (Str.ofString wd)) (.ref lt) (.ref lp) (iQ bf)))/\wd∈cD/\H lt=some (.lst tv)/\Paired (cW H) tv tx/\H lp=some (.lst eW)/\Paired (aV t B H d) eW qs/\
 tx.length=(shapeOf wd).1/\qs.length=(shapeOf wd).2.1+1/\(∀l,bf=some l->l<=99)/\((shapeOf wd).2.2=false->bf=none)/\(Vabldl.plain (Bq.ft wd tx qs bf)).length<=200000/\eD H (nums (Vabldl.plain (Bq.ft wd tx qs bf))) Q)->Ib t d vs H Q E
theorem Ha: ∀wd∈cD,(Vabldl.str wd).length<=10:=by decide +kernel
theorem IQ: ∀(rows:List VT),∀p∈rows,p.length<=(gl rows).length
 |[],p,h=>by cases h
 |[a],p,h=>by rw[List.mem_singleton] at h;rw[h];exact Nat.le_refl _
 |a::b::r,p,h=>by
  show _<=(a++(gy++gl (b::r))).length;rw[List.length_append,List.length_append];rcases List.mem_cons.mp h with rfl |h
  ·omega
  ·have:=IQ (b::r) p h;omega
variable{P:Program}{base:Heap}{cs:Addr}{d:Nat}
theorem Nt(t:Tx K mg w)(F:FP P base cs t d):aB P w K mg base (aC P w cs) (kP d+2) t.qZ.f t.qZ.fd ["tree"] (Ib t d):=by
 refine t.qZ.F.aJ true xG (fun vs H Q E h=>?_) (fun ay A outer s H vs Q E hr h=>?_) (hk:=fun _=>by unfold kP;omega)
 ·obtain⟨x,dx,lt,lp,rfl,_⟩:=h;rfl
 ·obtain⟨x,dx,lt,lp,rfl,h⟩:=h;have bB:az 6 _:=hr.mono (by unfold kP;omega);have bj:az 5 _:=hr.mono (by unfold kP;omega);refine⟨_,ak (a9 (bg dP (aQ (pv 0) rfl) aZ (bc _)) (ao (aD (aK t.spelled (jf (cs:=cs) t) bj (ax (cs:=cs)) (ae (aQ (pv 0) rfl) ag)))) a_)<|
   ak (aT 1 xG.nd (dw ag))<|
   ak (jW eu rfl (gf (aK t.qS (Nh t F) hr (ax (cs:=cs)) (ae (pv 0) ag))) (dc (i:=2) xG.nd rfl (Or.inl rfl))
    (ak (a9 (bg pD (bV dH rfl t.dy rfl (ae (pv 1) ag)) aM (bc _))
     (ao (bA (eQ PySem.F.plainAttrs_list PySem.F.slot_list_extend PySem.F.type_list_extend oU (pv 1) (ae (aK t.spelled (jf (cs:=cs) t) bj (ax (cs:=cs)) (ae aZ ag)) ag)))) a_)<|
     ao (bA (eQ PySem.F.plainAttrs_list PySem.F.slot_list_extend PySem.F.type_list_extend oU (pv 1) (ae (pv 2) ag)))))<|
   ao (aD (a0 iM (aK t.spelled (jf (cs:=cs) t) bj (ax (cs:=cs)) (ae (aQ (pv 0) rfl) ag)) (aK t.my (xW (cs:=cs) t) bB (ax (cs:=cs)) (ae (pv 1) ag)))),?_⟩
  have hb:=big;have wt: ∀{wd:Str}{a b c:V}{s:Str}{R:Bool->Hp->Prop},H x=some (.ins t.aU.C dx (jo (.str wd) a b c))->R (decide (wd=s)) H->sA (jG Bc (sN K (dU 0) "word") (tC (.str s))) [some (.ref x),none,none] H R:=fun hx hR=>
   ⟨_,rfl,x,_,_,_,_,rfl,hx,t.aU.cl,t.aU.nn,rfl,rfl,_,rfl,by
    rw[show decide (V.str _=V.str _)=decide (_=_) from decide_eq_decide.mpr ⟨V.str.inj,fun h=>by rw[h]⟩];exact hR⟩
  rcases h with⟨ex,k⟩ |⟨wd,tv,eW,tx,qs,bf,B,ex,c8,et,ht,ep,hp,h1,h2,lm,i6,hz,k⟩
  ·refine aS true (fun Rb hR=>wt ex (by rw[decide_eq_true rfl];exact hR)) (fun _=>?_) fun z=>by cases z
   exact⟨_,rfl,x,_,_,_,_,rfl,ex,t.aU.cl,t.aU.nn,rfl,Vabldl.str "all",(by rw[show Str.ofString "all"=strOf (Vabldl.str "all") by decide +kernel]<;>rfl),by decide,k⟩
  ·refine aS false (fun Rb hR=>wt ex (by rw[decide_eq_false (G9 wd c8)];exact hR)) (fun z=>by cases z) fun _=>?_;obtain⟨Mc,Md⟩:=xY wd c8;rw[C6 c8 h1 h2 i6] at hz k;have wl:=Ha wd c8;have ws:=u_ wd c8;generalize hrows:tx.map Vabldl.quote++qs.map Vabldl.plain++jt bf=rows at hz k;have ee:(gl rows).length+2+(Vabldl.str wd).length<=200000:=by
    unfold Vabldl.call at hz;rw[List.length_append,List.length_cons,List.length_append] at hz;have:([41]:List Nat).length=1:=rfl;omega
   have bo: ∀p∈rows,p≠[]:=by
    intro p LL;rw[<-hrows] at LL;rcases List.mem_append.mp LL with h |h
    ·rcases List.mem_append.mp h with h |h
     ·obtain⟨y,_,rfl⟩:=List.mem_map.mp h;intro e;cases e
     ·obtain⟨y,_,rfl⟩:=List.mem_map.mp h;exact Q2 y
    ·cases bf with
     |none=>cases h
     |some kk=>
      rw[show jt (some kk)=[Vabldl.decimal kk] from rfl,List.mem_singleton] at h;rw[h];unfold Vabldl.decimal
      split<;>(intro e;cases e)
   have Xo: ∀q∈qs,(Vabldl.plain q).length<=200000:=fun q hq=>by
    have:=IQ rows (Vabldl.plain q) (by rw[<-hrows];exact List.mem_append_left _ (List.mem_append_right _ (List.mem_map.mpr ⟨q,hq,rfl⟩)));omega
   refine⟨Nat.zero_le _,fun rl nF=>?_⟩;have s1:ai H (upd H rl (.lst [])):=ai.new nF;refine⟨_,rfl,x,dx,lt,lp,wd,tv,eW,tx,qs,bf,B,rfl,s1 _ _ ex,s1 _ _ et,Paired.c5 (fun v y g=>g.keep fun b xs e=>s1 _ _ e) ht,s1 _ _ ep,Paired.c5 (fun v q g=>g.same s1) hp,lm,by omega,by omega,Xo,fun H2 pc us s2 lZ e2 pr=>?_⟩;rw[hrows] at pr;have Li:H2 rl=some (.lst []):=s2 _ _ au;have w_:pc≠rl:=fun q=>by rw[q,au] at lZ;cases lZ
   have uh:Paired (LX (fun b=>b=pc∨b=rl) H2) us rows:=Paired.VP pr fun v row lN ⟨a,e,n,g⟩=>⟨a,e,fun z=>z.elim n fun q=>by
    rw[q,Li] at g;have:=HO.lst.inj (Option.some.inj g);exact bo row lN (List.map_eq_nil_iff.mp this.symm),g⟩
   refine⟨pc,rfl,⟨_,aA.of e2⟩,?_⟩;refine mz (K:=K) (a:=pc) (xs:=us) (fun i σ H'=>ai H H'/\ ∃v2,σ=[some (.ref x),some (.ref rl),v2]/\H' rl=some (.lst (nums (gl (rows.take i))))/\H' pc=some (.lst us)/\Paired (LX (fun b=>b=pc∨b=rl) H') us rows) ⟨s1.trans s2,_,rfl,Li,e2,uh⟩ (fun i σ H' _ ⟨_,_,_,_,e,_⟩=>aA.of e) ?_ ?_
   ·rintro i y σ H' hi ⟨s3,v2,rfl,er,Ax,xg⟩;obtain⟨row,lN,a,rfl,na,ea⟩:=Paired.get xg hi;have gt:=S7 rows (i+1);rw[take_snoc lN] at gt;refine y0 (decide (0<(gl (rows.take i)).length)) (fun σ' H'=>ai H H'/\σ'=[some (.ref x),some (.ref rl),some (.ref a)]/\H' rl=some (.lst (nums (if rows.take i=[] then [] else gl (rows.take i)++gy)))/\H' pc=some (.lst us)/\H' a=some (.lst (nums row))/\Paired (LX (fun b=>b=pc∨b=rl) H') us rows)
     (fun Rb hR=>⟨_,rfl,rl,_,rfl,.inl (aA.of er),(gl (rows.take i)).length,0,(by rw[a8]),rfl,_,rfl,hR⟩) (fun z N hN=>?_) (fun z=>?_) ?_
    ·have wa:rows.take i≠[]:=fun e=>by rw[e] at z;exact absurd (of_decide_eq_true z) (by decide)
     rw[rR row _ wa,List.length_append,List.length_append] at gt;refine⟨_,rfl,.inl ⟨rfl,_,aA.of er⟩,gy,(by rw[show Str.ofString ", "=strOf gy by decide +kernel]<;>rfl),by decide,fun H4 l4 s4 fi e4=>?_⟩;refine⟨rl,l4,_,_,rfl,rfl,s4 _ _ er,e4,by rw[a8,a8];omega,?_⟩;refine hN _ _ ⟨ai.cM (s3.trans s4) nF,rfl,?_,?_,?_,Paired.c5 (fun v r g=>(g.same s4).upd (.inr rfl)) xg⟩
     ·rw[au,<-eZ,if_neg wa]
     ·rw[aj w_];exact s4 _ _ Ax
     ·rw[aj (fun q=>na (.inr q))];exact s4 _ _ ea
    ·have he:rows.take i=[]:=by
      refine Decidable.byContradiction fun h=>?_;have:=Uu h fun p hp=>bo p (List.mem_of_mem_take hp);exact of_decide_eq_false z (List.length_pos_iff.mpr this)
     refine⟨s3,rfl,?_,Ax,ea,xg⟩;rw[if_pos he,er,he];rfl
    ·rintro σ' H4 ⟨s4,rfl,Lj,Vp,Ww,Ba⟩;refine⟨_,rfl,.inl ⟨rfl,_,aA.of Lj⟩,_,rfl,rl,a,_,_,rfl,rfl,Lj,Ww,?_,?_⟩
     ·rw[a8,a8]
      by_cases he:rows.take i=[]
      ·rw[if_pos he];rw[he] at gt;have:(gl ([]++[row]))=row:=rfl;rw[this] at gt;show 0+row.length<=_;omega
      ·rw[if_neg he,List.length_append];rw[rR row _ he,List.length_append,List.length_append] at gt;omega
     refine⟨ai.cM s4 nF,_,rfl,?_,?_,Paired.c5 (fun v r g=>g.upd (.inr rfl)) Ba⟩
     ·rw[au,<-eZ,take_snoc lN]
      by_cases he:rows.take i=[]
      ·rw[if_pos he,he];rfl
      ·rw[if_neg he,rR row _ he,List.append_assoc]
     ·rw[aj w_];exact Vp
   ·rintro σ H' ⟨s3,v2,rfl,er,Ax,xg⟩;rw[Paired.length uh,List.take_length] at er;refine⟨_,rfl,x,_,_,_,_,rfl,s3 _ _ ex,t.aU.cl,t.aU.nn,rfl,Vabldl.str wd,(by rw[ws]<;>rfl),by omega,fun H4 l4 s4 fi e4=>?_⟩;refine⟨_,rfl,rl,gl rows,rfl,s4 _ _ er,by omega,fun H5 l5 s5 tO e5=>?_⟩;refine⟨l4,l5,_,_,rfl,rfl,s5 _ _ e4,e5,?_,fun l6 tP=>?_⟩
    ·rw[a8,a8,List.length_cons,List.length_append];show _+(_+1+1)<=_;omega
    rw[<-eZ];exact k _ l6 (((s3.trans s4).trans s5).trans (ai.new tP)) (((s3.trans s4).trans s5).free tP) au
theorem Nd(t:Tx K mg w):FP P base cs t 0:=by
 show aB P w K mg base (aC P w cs) (7+1) _ _ _ _;refine t.iC.F.aJ true Di (fun vs H Q E h=>?_) (fun ay A outer s H vs Q E hr h=>?_)
 ·obtain⟨v,q,B,rfl,_⟩:=h;rfl
 ·obtain⟨v,q,B,rfl,hq,_⟩:=h;exact hq.elim
theorem Nf(t:Tx K mg w)(F:FP P base cs t d):FP P base cs t (d+1):=by
 show aB P w K mg base (aC P w cs) (kP (d+1)) _ _ _ _;rw[show kP (d+1)=kP d+2+1 by unfold kP;omega];refine t.iC.F.aJ true Di (fun vs H Q E h=>?_) (fun ay A outer s H vs Q E hr h=>?_) (hk:=fun _=>by unfold kP;omega)
 ·obtain⟨v,q,B,rfl,_⟩:=h;rfl
 ·obtain⟨v,q,B,rfl,hq,hz,k⟩:=h;have nF:az (kP d+1) _:=hr.mono (by omega);have bj:az 5 _:=hr.mono (by unfold kP;omega);refine⟨_,ak (a9 (c0 (bV iz rfl t.gN rfl (ae (pv 0)<|ae (bw (v:= .ref t.bF.C) rfl t.bF.m rfl) ag))) (ao (aD (aK t.rA (NO t F) nF (ax (cs:=cs)) (ae (pv 0) ag)))) a_)<|
   ak (a9 (c0 (bV iz rfl t.gN rfl (ae (pv 0)<|ae (bw (v:= .ref t.bO.C) rfl t.bO.m rfl) ag))) (ao (aD (aK t.plain_sum (NP t F) hr (ax (cs:=cs)) (ae (pv 0) ag)))) a_)<|
   ak (a9 (c0 (bV iz rfl t.gN rfl (ae (pv 0)<|ae (bw (v:= .ref t.cq.C) rfl t.cq.m rfl) ag))) (ao (aD (aK t.quoted (Ek (cs:=cs) t) bj (ax (cs:=cs)) (ae (aQ (pv 0) rfl) ag)))) a_)<|
   ak (a9 (c0 (bV iz rfl t.gN rfl (ae (pv 0)<|ae (bw (v:= .ref t.b_.C) rfl t.b_.m rfl) ag))) (ao (aD (aK t.spelled (jf (cs:=cs) t) bj (ax (cs:=cs)) (ae (a0 qY aZ (aQ (pv 0) rfl)) ag)))) a_)<|
   ao (aD (aK t.qZ (Nt t F) hr (ax (cs:=cs)) (ae (pv 0) ag))),?_⟩
  have hb:=big;have hq:Sh t B H (aV t B H d) v q:=hq;cases hq with
  | @lit x dx v w0 b e h=>
   refine aS false (fun Rb hR=>bU rfl (t.cq.ty e) t.uA hR) (fun z=>by cases z) fun _=>?_;refine aS false (fun Rb hR=>bU rfl (t.cq.ty e) t.uB hR) (fun z=>by cases z) fun _=>?_;refine aS true (fun Rb hR=>bU rfl (t.cq.ty e) t.xA hR) (fun _=>?_) fun z=>by cases z
   exact⟨_,rfl,x,_,_,_,_,rfl,e,t.cq.cl,t.cq.nn,rfl,v,w0,rfl,h,k⟩
  | @var x dx n b e=>
   refine aS false (fun Rb hR=>bU rfl (t.b_.ty e) t.ur hR) (fun z=>by cases z) fun _=>?_;refine aS false (fun Rb hR=>bU rfl (t.b_.ty e) t.uu hR) (fun z=>by cases z) fun _=>?_;refine aS false (fun Rb hR=>bU rfl (t.b_.ty e) t.xu hR) (fun z=>by cases z) fun _=>?_;refine aS true (fun Rb hR=>bU rfl (t.b_.ty e) t.xt hR) (fun _=>?_) fun z=>by cases z
   have hz:n.length+1<=200000:=hz;have ed:Str.ofString "$"=strOf [36]:=by decide +kernel
   refine⟨_,rfl,x,_,_,_,_,rfl,e,t.b_.cl,t.b_.nn,rfl,_,_,rfl,rfl,?_,36::n,(by rw[ed,uD]<;>rfl),by rw[List.length_cons];omega,k⟩;rw[ed,oY,oY];show 1+n.length<=_;omega
  | @let_ x dx n va vb qa qb b e h1 h2=>
   refine aS true (fun Rb hR=>bU rfl (t.bF.ty e) t.uX hR) (fun _=>?_) fun z=>by cases z
   exact⟨_,rfl,x,dx,n,va,vb,qa,qb,B,rfl,e,h1,h2,hz,k⟩
  | @sum x dx ls v0 us q0 ss b e bl el ne h0 hs=>
   refine aS false (fun Rb hR=>bU rfl (t.bO.ty e) t.uY hR) (fun z=>by cases z) fun _=>?_;refine aS true (fun Rb hR=>bU rfl (t.bO.ty e) t.uZ hR) (fun _=>?_) fun z=>by cases z
   exact⟨_,rfl,x,dx,ls,v0,us,q0,ss,B,rfl,e,el,ne,h0,hs,hz,k⟩
  | @all x dx lt lp b e bp ep=>
   refine aS false (fun Rb hR=>bU rfl (t.aU.ty e) t.mq hR) (fun z=>by cases z) fun _=>?_;refine aS false (fun Rb hR=>bU rfl (t.aU.ty e) t.mr hR) (fun z=>by cases z) fun _=>?_;refine aS false (fun Rb hR=>bU rfl (t.aU.ty e) t.qI hR) (fun z=>by cases z) fun _=>?_;refine aS false (fun Rb hR=>bU rfl (t.aU.ty e) t.qB hR) (fun z=>by cases z) fun _=>?_;exact⟨_,rfl,x,dx,lt,lp,rfl,.inl ⟨e,k⟩⟩
  | @call x dx lt lp wd tv eW tx qs bf b e hw bt et ht bp ep hp kD kC lm i6=>
   refine aS false (fun Rb hR=>bU rfl (t.aU.ty e) t.mq hR) (fun z=>by cases z) fun _=>?_;refine aS false (fun Rb hR=>bU rfl (t.aU.ty e) t.mr hR) (fun z=>by cases z) fun _=>?_;refine aS false (fun Rb hR=>bU rfl (t.aU.ty e) t.qI hR) (fun z=>by cases z) fun _=>?_;refine aS false (fun Rb hR=>bU rfl (t.aU.ty e) t.qB hR) (fun z=>by cases z) fun _=>?_;exact⟨_,rfl,x,dx,lt,lp,rfl,.inr ⟨wd,tv,eW,tx,qs,bf,B,e,hw,et,ht,ep,hp,kD,kC,lm,i6,hz,k⟩⟩
theorem C4(t:Tx K mg w): ∀d,FP P base cs t d
 |0=>Nd t
 |d+1=>Nf t (C4 t d)
end
inductive Jy(C:Addr)(vs:List V)(H:Hp)(Q:VK)(E:XK):Prop
 |mk(x dx:Addr)(a b:V):vs=[.ref x,a,b]->H x=some (.ins C dx [])->(∀H' m,(∀c o,H c=some o->c≠x->H' c=some o)->H m=none->m≠x->H' m=some (.dT [])->H' x=some (.ins C dx (zH a b (.ref m)))->Q .aN H')->Jy C vs H Q E
inductive Ih(C:Addr)(vs:List V)(H:Hp)(Q:VK)(E:XK):Prop
 |mk(x dx:Addr):vs=[.ref x]->H x=some (.ins C dx [])->(∀H' la lb lc,(∀c o,H c=some o->c≠x->H' c=some o)->H la=none->H lb=none->H lc=none->la≠lc->H' la=some (.lst [])->H' lb=some (.dT [])->H' lc=some (.lst [])->H' x=some (.ins C dx (pA (.ref la) (.ref lb) (.ref lc)))->Q .aN H')->Ih C vs H Q E
inductive D6(t:Tx K mg w)(vs:List V)(H:Hp)(Q:VK)(E:XK):Prop
 |mk(p:Addr)(x:VT):vs=[.ref p]->H p=some (.tup (nums x))->x.length<sizeLine->(Vabldl.goodText x=true-> ∀H',ai H H'->Q .aN H')->(Vabldl.goodText x=false->Throws H t.iy.C (b8 (-1)) E)->D6 t vs H Q E
def okN(g:VG)(i:Int):Bool:=decide (0<=i/\i<(g.length:Int))
inductive D4(t:Tx K mg w)(vs:List V)(H:Hp)(Q:VK)(E:XK):Prop
 |mk(ga dg la lb lc:Addr)(nv:List V)(ms:List Addr)(g:VG)(needs:List Nat)(i:Int):vs=[.ref ga,.int i]->bx t H ga dg la lb lc nv ms g needs->(okN g i=true->Q .aN H)->(okN g i=false->Throws H t.eX.C (b8 (-4)) E)->D4 t vs H Q E
inductive D5(t:Tx K mg w)(vs:List V)(H:Hp)(Q:VK)(E:XK):Prop
 |mk(ga dg la lb lc:Addr)(nv:List V)(ms:List Addr)(g:VG)(needs:List Nat)(i j:Int):vs=[.ref ga,.int i,.int j]->bx t H ga dg la lb lc nv ms g needs->((okN g i&&okN g j)=true->Q .aN H)->((okN g i&&okN g j)=false->Throws H t.eX.C (b8 (-4)) E)->D5 t vs H Q E
inductive Fv(t:Tx K mg w)(vs:List V)(H:Hp)(Q:VK)(E:XK):Prop
 |mk(ga dg la lb lc:Addr)(nv:List V)(ms:List Addr)(g:VG)(needs:List Nat)(a b:Nat):vs=[.ref ga,.int (a:Int),.int (b:Int)]->bx t H ga dg la lb lc nv ms g needs->a<g.length->Q (.bl ((needs.getD a 0).testBit b)) H->Fv t vs H Q E
theorem R9(t:Tx K mg w):aB P w K mg base (aC P w cs) 1 t.oJ.f t.oJ.fd ["self","name","kind"] (Jy t.d7.C):=by
 refine t.oJ.F.aJ false NU (fun vs H Q E h=>?_) (fun ay A outer s H vs Q E hr h=>?_)
 ·obtain⟨x,dx,a,b,rfl,_⟩:=h;rfl
 ·obtain⟨x,dx,a,b,rfl,hx,k⟩:=h;refine⟨_,ak (cZ (pv 0) (pv 1) rfl)<|ak (cZ (pv 0) (pv 2) rfl)<|ao (cZ (pv 0) Gd rfl),?_⟩;refine⟨_,rfl,_,rfl,x,_,dx,_,rfl,hx,t.d7.cl,t.d7.nn,(by show 0<1000;decide),?_⟩;rw[show bD "name" a ([]:List (Str×V))=([("name",a)]:List (Str×V)) from rfl];refine⟨_,rfl,_,rfl,x,_,dx,_,rfl,au,t.d7.cl,t.d7.nn,(by show 1<1000;decide),?_⟩;rw[show bD "kind" b ([("name",a)]:List (Str×V))=([("name",a),("kind",b)]:List (Str×V)) from c_ _ _ _ (show("kind":Str)∉(["name"]:List Str) by decide +kernel),IF];intro m hm;have wX:m≠x:=fun q=>by rw[q,au] at hm;cases hm
  have fV:H m=none:=by rw[aj wX] at hm;exact hm
  refine⟨_,rfl,x,_,dx,_,rfl,(by rw[aj (Ne.symm wX)];exact au),t.d7.cl,t.d7.nn,(by show 2<1000;decide),?_⟩;rw[show bD "marks" (.ref m) ([("name",a),("kind",b)]:List (Str×V))=zH a b (.ref m) from c_ _ _ _ (show("marks":Str)∉(["name","kind"]:List Str) by decide +kernel)];refine k _ m (fun c o e hc=>?_) fV wX (by rw[aj wX];exact au) au;rw[aj hc,aj (aR e fV),aj hc];exact e
theorem QN(t:Tx K mg w):aB P w K mg base (aC P w cs) 1 t.oG.f t.oG.fd ["self"] (Ih t.aX.C):=by
 refine t.oG.F.aJ false Nv (fun vs H Q E h=>?_) (fun ay A outer s H vs Q E hr h=>?_)
 ·obtain⟨x,dx,rfl,_⟩:=h;rfl
 ·obtain⟨x,dx,rfl,hx,k⟩:=h;refine⟨_,ak (cZ (pv 0) (dw ag) rfl)<|ak (cZ (pv 0) Gd rfl)<|ao (cZ (pv 0) (dw ag) rfl),?_⟩;refine⟨Nat.zero_le _,fun la tR=>⟨_,rfl,x,_,dx,_,rfl,(by rw[aj (aR hx tR)];exact hx),t.aX.cl,t.aX.nn,(by show 0<1000;decide),?_⟩⟩;have qp:la≠x:=(aR hx tR).symm;rw[show bD "nodes" (.ref la) ([]:List (Str×V))=([("nodes",.ref la)]:List (Str×V)) from rfl];intro lb kq;have kF:lb≠x:=fun q=>by rw[q,au] at kq;cases kq
  rw[aj kF] at kq;have L0:lb≠la:=fun q=>by rw[q,au] at kq;cases kq
  rw[aj L0] at kq;refine⟨_,rfl,x,_,dx,_,rfl,(by rw[aj (Ne.symm kF)];exact au),t.aX.cl,t.aX.nn,(by show 1<1000;decide),?_⟩;rw[show bD "number_by_name" (.ref lb) ([("nodes",.ref la)]:List (Str×V))=([("nodes",.ref la),("number_by_name",.ref lb)]:List (Str×V)) from c_ _ _ _ (show("number_by_name":Str)∉(["nodes"]:List Str) by decide +kernel)];refine⟨Nat.zero_le _,fun lc il=>?_⟩;have nI:lc≠x:=fun q=>by rw[q,au] at il;cases il
  rw[aj nI] at il;have L5:lc≠lb:=fun q=>by rw[q,au] at il;cases il
  rw[aj L5,aj nI] at il;have A8:lc≠la:=fun q=>by rw[q,au] at il;cases il
  rw[aj A8] at il;refine⟨_,rfl,x,_,dx,_,rfl,(by rw[aj (Ne.symm nI)];exact au),t.aX.cl,t.aX.nn,(by show 2<1000;decide),?_⟩;rw[show bD "needs" (.ref lc) ([("nodes",.ref la),("number_by_name",.ref lb)]:List (Str×V))=pA (.ref la) (.ref lb) (.ref lc) from c_ _ _ _ (show("needs":Str)∉(["nodes","number_by_name"]:List Str) by decide +kernel)];refine k _ la lb lc (fun c o e hc=>?_) tR kq il (Ne.symm A8) ?_ ?_ ?_ au
  ·rw[aj hc,aj (aR e il),aj hc,aj (aR e kq),aj hc,aj (aR e tR)];exact e
  ·rw[aj qp,aj (Ne.symm A8),aj qp,aj (Ne.symm L0),aj qp,au]
  ·rw[aj kF,aj (Ne.symm L5),aj kF,au]
  ·rw[aj nI,au]
theorem ux(t:Tx K mg w):aB P w K mg base (aC P w cs) 7 t.kU.f t.kU.fd ["row"] (D6 t):=by
 refine t.kU.F.aJ true Ny (fun vs H Q E h=>?_) (fun ay A outer s H vs Q E hr h=>?_)
 ·obtain⟨p,x,rfl,_⟩:=h;rfl
 ·obtain⟨p,x,rfl,hp,hz,k1,k2⟩:=h;have fj:az 3 _:=hr.mono (by decide);refine⟨_,ao (a9 (lz (c0 (aK t.pq (Ej (cs:=cs) t) hr (ax (cs:=cs)) (ae (pv 0) ag))))
    (ao (k7 aE rfl (t.n9.d3 rfl) (Na (cs:=cs) t) fj rfl t.iy.m t.n9.b (ax (cs:=cs)))) a_),?_⟩
  refine⟨_,rfl,p,x,rfl,bW hp,hz,fun H' hs=>⟨_,rfl,bS (fun z=>?_) fun z=>?_⟩⟩
  ·exact⟨Nat.zero_le _,fun d hd=>d4 t.iy [] rfl hd ((k2 (by rw[<-Bool.not_eq_true'];exact z)).same hs)⟩
  ·exact k1 (by rw[<-Bool.not_eq_false'];exact z) H' hs
theorem xE(t:Tx K mg w):aB P w K mg base (aC P w cs) 5 t.i9.f t.i9.fd ["self","number"] (D4 t):=by
 refine t.i9.F.aJ true Mw (fun vs H Q E h=>?_) (fun ay A outer s H vs Q E hr h=>?_)
 ·obtain⟨ga,dg,la,lb,lc,nv,ms,g,needs,i,rfl,_⟩:=h;rfl
 ·obtain⟨ga,dg,la,lb,lc,nv,ms,g,needs,i,rfl,G,k1,k2⟩:=h;have fj:az 3 _:=hr.mono (by decide);refine⟨_,ao (a9 (lz (rL J6 zI aM (pv 1) (bV dH rfl t.dy rfl (ae (aQ (pv 0) rfl) ag))))
    (ao (k7 aE rfl (t.n6.d3 rfl) (M_ (cs:=cs) t) fj rfl t.eX.m t.n6.b (ax (cs:=cs)))) a_),?_⟩
  have bad:okN g i=false->zu t.eX.C (eL K 0 fun _=>b8 (-4)) E E0 iT {nx:=fun _ H'=>Q .aN H',rt:=Q} [some (.ref ga),some (.int i)] H:=fun z=>
   ⟨Nat.zero_le _,fun d hd=>d4 t.eX [] rfl hd (k2 z)⟩
  refine⟨_,rfl,_,_,rfl,rfl,_,rfl,bS (fun z=>?_) fun z=>⟨_,rfl,(bad ?_)⟩⟩
  ·refine⟨_,rfl,ga,_,_,_,_,rfl,G.obj,t.aX.cl,t.aX.nn,rfl,la,_,rfl,.inl (aA.of G.nodes),_,_,rfl,rfl,_,rfl,bS (fun z2=>bad ?_) fun z2=>?_⟩
   ·rw[Bool.not_eq_true'] at z2;have z2:=of_decide_eq_false z2;rw[G.len] at z2;exact decide_eq_false fun h=>z2 h.2
   ·rw[Bool.not_eq_false'] at z2;have z2:=of_decide_eq_true z2;rw[G.len] at z2;exact k1 (decide_eq_true ⟨of_decide_eq_true z,z2⟩)
  ·exact decide_eq_false fun h=>of_decide_eq_false z h.1
theorem xF(t:Tx K mg w):aB P w K mg base (aC P w cs) 6 t.i_.f t.i_.fd ["self","a","b"] (D5 t):=by
 refine t.i_.F.aJ true Mx (fun vs H Q E h=>?_) (fun ay A outer s H vs Q E hr h=>?_)
 ·obtain⟨ga,dg,la,lb,lc,nv,ms,g,needs,i,j,rfl,_⟩:=h;rfl
 ·obtain⟨ga,dg,la,lb,lc,nv,ms,g,needs,i,j,rfl,G,k1,k2⟩:=h;refine⟨_,ak (bA (bz (pv 0) t.aX.cl t.i9.me (xE (cs:=cs) t) hr t.i9.b .nil aE.passes (ae (pv 1) ag)))<|
   ao (bA (bz (pv 0) t.aX.cl t.i9.me (xE (cs:=cs) t) hr t.i9.b .nil aE.passes (ae (pv 2) ag))),?_⟩
  refine⟨_,rfl,ga,_,_,rfl,G.obj,rfl,_,rfl,ga,dg,la,lb,lc,nv,ms,g,needs,i,rfl,G,fun h1=>?_,fun h1=>k2 (by rw[h1];rfl)⟩;exact⟨_,rfl,ga,_,_,rfl,G.obj,rfl,_,rfl,ga,dg,la,lb,lc,nv,ms,g,needs,j,rfl,G,fun h2=>k1 (by rw[h1,h2];rfl),fun h2=>k2 (by rw[h1,h2];rfl)⟩
theorem DU(t:Tx K mg w):aB P w K mg base (aC P w cs) 5 t.kO.f t.kO.fd ["self","a","b"] (Fv t):=by
 refine t.kO.F.aJ true MN (fun vs H Q E h=>?_) (fun ay A outer s H vs Q E hr h=>?_)
 ·obtain⟨ga,dg,la,lb,lc,nv,ms,g,needs,a,b,rfl,_⟩:=h;rfl
 ·obtain⟨ga,dg,la,lb,lc,nv,ms,g,needs,a,b,rfl,G,ha,k⟩:=h;refine⟨_,ao (aD (ji dP (a0 vJ (a0 Jl (cf d5 (aQ (pv 0) rfl) (pv 1) (fun _ _=>rfl)) (pv 2)) aM) aM (bc _))),?_⟩;refine⟨_,rfl,ga,_,_,_,_,rfl,G.obj,t.aX.cl,t.aX.nn,rfl,_,rfl,lc,_,_,_,rfl,rfl,aA.of G.need,at_of (j:=a) rfl (e_ (oO (by rw[G.rel.len];exact ha))),_,rfl,_,_,rfl,rfl,Int.natCast_nonneg _,_,_,rfl,rfl,rfl,?_⟩;rw[JM,Hf];exact k
def Gm(la lb lc:Addr)(ms:List Addr):Addr->Prop:=fun b=>b=la∨b=lb∨b=lc∨b∈ms
def mN(N:Addr->Prop)(H H':Hp):Prop:= ∀b o,H b=some o-> ¬N b->H' b=some o
def sy(g:VG)(a:Nat)(f:List Nat->List Nat):VG:=g.modify a fun z=>{z with needs:=f z.needs}
theorem u4(g:VG)(a:Nat)(f:List Nat->List Nat)(i:Nat):(sy g a f)[i]? =(g[i]?).map fun z=>if i=a then {z with needs:=f z.needs} else z:=by
 unfold sy;rw[List.getElem?_modify];cases g[i]? with
 |none=>rfl
 |some z=>
  show some (if a=i then _ else z)=some (if i=a then _ else z)
  by_cases h:a=i
  ·rw[if_pos h,if_pos h.symm]
  ·rw[if_neg h,if_neg (fun q=>h q.symm)]
theorem Py(g:VG)(a:Nat)(f:List Nat->List Nat):(sy g a f).length=g.length:=List.length_modify ..
theorem E3{g g':VG}(hl:g'.length=g.length)(h: ∀(i:Nat) nd eK,g[i]? =some nd->g'[i]? =some eK->eK.name=nd.name):hG g'=hG g:=by
 unfold hG;refine List.ext_getElem? fun i=>?_;rw[List.getElem?_map,List.getElem?_map,List.getElem?_zipIdx,List.getElem?_zipIdx];cases e:g[i]? with
 |none=>
  have:g'[i]? =none:=by rw[List.getElem?_eq_none_iff] at e ⊢;omega
  rw[this]
 |some nd=>
  obtain⟨eK,e'⟩: ∃eK,g'[i]? =some eK:=⟨_,List.getElem?_eq_getElem (by rw[hl];exact(List.getElem?_eq_some_iff.mp e).1)⟩;rw[e'];show some (cw eK.name,_)=some (cw nd.name,_);rw[h i nd eK e e']
theorem OZ(g:VG)(nd:Vabldl.Node):hG (g++[nd])=hG g++[(cw nd.name,.int (g.length:Int))]:=by
 unfold hG;rw[List.zipIdx_append,List.map_append];show _++[(cw nd.name,V.int ((0+g.length:Nat):Int))]=_;rw[Nat.zero_add]
theorem Q5{af:List (List Key×V)}{k:List Key}{v:V}(h:bM af k=none):putK af k v=af++[(k,v)]:=by
 unfold putK;rw[if_neg]
 intro q;obtain⟨x,hx,e⟩:=List.any_eq_true.mp q;unfold bM at h;rw[Option.map_eq_none_iff,List.find?_eq_none] at h;exact h x hx e
theorem iJ.keep{t:Tx K mg w}{H H':Hp}{v:V}{m:Addr}{nd eK:Vabldl.Node}(h:iJ t H v m nd)(hi: ∀b C dx fs,H b=some (.ins C dx fs)->H' b=some (.ins C dx fs))(ht: ∀b xs,H b=some (.tup xs)->H' b=some (.tup xs))(hm:H' m=H m)(e1:eK.name=nd.name)(e2:eK.kind=nd.kind)(e3:eK.marks=nd.marks):iJ t H' v m eK:=by
 obtain⟨x,dx,nm,kd,af,h1,h2,h3,h4,h5,h6,h7,h8⟩:=h;exact⟨x,dx,nm,kd,af,h1,hi _ _ _ _ h2,by rw[e1];exact h3.keep ht,by rw[e2];exact h4.keep ht,by rw[hm];exact h5,by rw[e3];exact Paired.c5 (fun a c g=>⟨g.1,g.2.keep ht⟩) h6,h7,by rw[e3];exact h8⟩
theorem iJ.mW{t:Tx K mg w}{H:Hp}{v:V}{m:Addr}{nd:Vabldl.Node}(h:iJ t H v m nd): ∃af,H m=some (.dT af):=let⟨_,_,_,_,af,_,_,_,_,e,_,_,_⟩:=h;⟨af,e⟩
theorem bx.GA{t:Tx K mg w}{H:Hp}{ga dg la lb lc:Addr}{nv:List V}{ms:List Addr}{g:VG}{needs:List Nat}(G:bx t H ga dg la lb lc nv ms g needs){a m:Nat}{f:List Nat->List Nat}(ha:a<g.length)(hm:m<2^g.length)(dR: ∀b nd,g[a]? =some nd->m.testBit b=(f nd.needs).contains b):
  bx t (upd H lc (.lst (nums (needs.set a m)))) ga dg la lb lc nv ms (sy g a f) (needs.set a m):=by
 have fm:dh H (upd H lc (.lst (nums (needs.set a m)))):=dh.lst G.need;have ne: ∀b o,H b=some o->(∀xs,o≠ .lst xs)->b≠lc:=fun b o e n q=>by rw[q,G.need] at e;cases e;exact n _ rfl
 have hl:=Py g a f;refine⟨fm.1 _ _ _ _ G.obj,by rw[aj G.kz];exact G.nodes,?_,au,by rw[hl];exact G.len,by rw[hl];exact G.gr,fun i eK e=>?_,G.nd,G.jE,G.kz,⟨by rw[List.length_set,hl];exact G.rel.len,fun z hz=>?_,fun x b hx=>?_⟩,by rw[hl];exact G.le,fun eK bE=>?_⟩
 ·rw[aj (ne _ _ G.names (by intro xs q;cases q)),G.names,E3 hl fun i nd eK e1 e2=>?_];rw[u4,e1] at e2;cases e2;show(if i=a then _ else _:Vabldl.Node).name=_
  split<;>rfl
 ·rw[u4] at e;obtain⟨nd,e0,rfl⟩:=Option.map_eq_some_iff.mp e;obtain⟨v,mm,e1,e2,hN⟩:=G.node i nd e0;refine⟨v,mm,e1,e2,?_⟩;obtain⟨af,ek⟩:=hN.mW
  by_cases q:i=a
  ·rw[if_pos q];exact hN.keep fm.1 fm.2 (aj (ne _ _ ek (by intro xs q;cases q))) rfl rfl rfl
  ·rw[if_neg q];exact hN.keep fm.1 fm.2 (aj (ne _ _ ek (by intro xs q;cases q))) rfl rfl rfl
 ·rw[hl];rcases List.mem_or_eq_of_mem_set hz with h |h
  ·exact G.rel.low z h
  ·rw[h];exact hm
 ·rw[hl] at hx;have pP:=u4 g a f x;obtain⟨nd,bE⟩: ∃nd,g[x]? =some nd:=⟨_,List.getElem?_eq_getElem hx⟩;rw[bE] at pP
  by_cases q:x=a
  ·subst q;rw[List.getD_eq_getElem?_getD,List.getElem?_set_self (by rw[G.rel.len];exact hx)];show m.testBit b=_;rw[dR b nd bE];unfold Vabldl.needsOf;rw[pP];show _=(if x=x then _ else _:Vabldl.Node).needs.contains b;rw[if_pos rfl]
  ·rw[List.getD_eq_getElem?_getD,List.getElem?_set_ne (fun z=>q z.symm),<-List.getD_eq_getElem?_getD,G.rel.bit x b hx];unfold Vabldl.needsOf;rw[pP,bE];show _=(if x=a then _ else _:Vabldl.Node).needs.contains b;rw[if_neg q]
 ·obtain⟨i,hi⟩:=List.mem_iff_getElem?.mp bE;rw[u4] at hi;obtain⟨nd,e0,rfl⟩:=Option.map_eq_some_iff.mp hi;have:=G.good nd (List.mem_of_getElem? e0)
  split<;>exact this
inductive zx(t:Tx K mg w)(cut:Bool)(vs:List V)(H:Hp)(Q:VK)(E:XK):Prop
 |mk(ga dg la lb lc:Addr)(nv:List V)(ms:List Addr)(g:VG)(needs:List Nat)(i j:Int):vs=[.ref ga,.int i,.int j]->bx t H ga dg la lb lc nv ms g needs->((okN g i&&okN g j)=false->Throws H t.eX.C (b8 (-4)) E)->((okN g i&&okN g j)=true->if(Vabldl.needsOf g i.toNat).contains j.toNat=cut then ∀H' du,mN (Gm la lb lc ms) H H'->bx t H' ga dg la lb lc nv ms (sy g i.toNat fun l=>if cut then l.filter fun z=>z != j.toNat else l++[j.toNat]) du->Q (.int (if cut then 0 else 1)) H'
  else if cut then Throws H t.kR.C (b8 (-5)) E else Q (.int 0) H)->zx t cut vs H Q E
theorem mI{g:VG}{i:Int}(h:okN g i=true): ∃n:Nat,i=(n:Int)/\n<g.length:=by
 have:=of_decide_eq_true h;exact⟨i.toNat,by omega,by omega⟩
theorem LQ{n j:Nat}(h:j<n):i5 n (j:Int)=some j:=by
 unfold i5;rw[if_pos (by omega),if_pos (by omega),Int.toNat_natCast]
theorem Oj(t:Tx K mg w):aB P w K mg base (aC P w cs) 7 t.oj.f t.oj.fd ["self","a","b"] (zx t false):=by
 refine t.oj.F.aJ true ML (fun vs H Q E h=>?_) (fun ay A outer s H vs Q E hr h=>?_)
 ·obtain⟨ga,dg,la,lb,lc,nv,ms,g,needs,i,j,rfl,_⟩:=h;rfl
 ·obtain⟨ga,dg,la,lb,lc,nv,ms,g,needs,i,j,rfl,G,k1,k2⟩:=h;have bj:az 5 _:=hr.mono (by decide);refine⟨_,ak (bA (bz (pv 0) t.aX.cl t.i_.me (xF (cs:=cs) t) hr t.i_.b .nil aE.passes (ae (pv 1)<|ae (pv 2) ag)))<|
   ak (a9 (c0 (bz (pv 0) t.aX.cl t.kO.me (DU (cs:=cs) t) bj t.kO.b .nil (ax (cs:=cs)) (ae (pv 1)<|ae (pv 2) ag))) (ao (aD aM)) a_)<|
   ak (zt (a0 mJ (cf d5 (aQ (pv 0) rfl) (pv 1) (fun _ _=>rfl)) (a0 jh aM (pv 2))) (zo (aQ (pv 0) rfl) (pv 1) set_list))<|
   ao (aD aM),?_⟩
  refine⟨_,rfl,ga,_,_,rfl,G.obj,rfl,_,rfl,_,rfl,ga,dg,la,lb,lc,nv,ms,g,needs,i,j,rfl,G,fun h1=>?_,k1⟩;have k:=k2 h1;rw[Bool.and_eq_true] at h1;obtain⟨a,rfl,ha⟩:=mI h1.1;obtain⟨b,rfl,hb⟩:=mI h1.2;rw[Int.toNat_natCast,Int.toNat_natCast,<-G.rel.bit a b ha] at k;have get:=oO (l:=needs) (i:=a) (by rw[G.rel.len];exact ha);dsimp only [rW,d6,de,Ends.d9];refine aS ((needs.getD a 0).testBit b) (fun Rb hR=>⟨_,rfl,ga,_,_,rfl,G.obj,rfl,_,rfl,_,rfl,ga,dg,la,lb,lc,nv,ms,g,needs,a,b,rfl,G,ha,_,rfl,hR⟩) (fun z=>?_) fun z=>?_
  ·rw[if_neg (by rw[z];decide),if_neg (by decide)] at k;exact k
  ·rw[if_pos z] at k;refine⟨_,rfl,ga,_,_,_,_,rfl,G.obj,t.aX.cl,t.aX.nn,rfl,_,rfl,lc,_,_,_,rfl,rfl,aA.of G.need,at_of (j:=a) rfl (e_ get),_,rfl,b,rfl,rfl,(by have:=G.le;omega),_,_,rfl,rfl,_,rfl,ga,_,_,_,_,rfl,G.obj,t.aX.cl,t.aX.nn,rfl,_,rfl,lc,_,_,a,rfl,rfl,G.need,LQ (by rw[a8,G.rel.len];exact ha),?_⟩;rw[<-yP];refine k _ _ (fun c o e n=>by rw[aj (fun q=>n (.inr (.inr (.inl q))))];exact e) (G.GA ha (vY (pj G.rel.low a) (lx hb)) fun c nd bE=>?_);rw[Nat.testBit_or,lq,G.rel.bit a c ha];unfold Vabldl.needsOf;rw[bE];show _=(nd.needs++[b]).contains c;rw[Bool.eq_iff_iff,Bool.or_eq_true,List.contains_iff_mem,List.contains_iff_mem,List.mem_append,List.mem_singleton,decide_eq_true_eq];exact⟨fun h=>h.imp id Eq.symm,fun h=>h.imp id Eq.symm⟩
theorem Om(t:Tx K mg w):aB P w K mg base (aC P w cs) 7 t.oo.f t.oo.fd ["self","a","b"] (zx t true):=by
 refine t.oo.F.aJ true MM (fun vs H Q E h=>?_) (fun ay A outer s H vs Q E hr h=>?_)
 ·obtain⟨ga,dg,la,lb,lc,nv,ms,g,needs,i,j,rfl,_⟩:=h;rfl
 ·obtain⟨ga,dg,la,lb,lc,nv,ms,g,needs,i,j,rfl,G,k1,k2⟩:=h;have bj:az 5 _:=hr.mono (by decide);have fj:az 3 _:=hr.mono (by decide);refine⟨_,ak (bA (bz (pv 0) t.aX.cl t.i_.me (xF (cs:=cs) t) hr t.i_.b .nil aE.passes (ae (pv 1)<|ae (pv 2) ag)))<|
   ak (a9 (lz (c0 (bz (pv 0) t.aX.cl t.kO.me (DU (cs:=cs) t) bj t.kO.b .nil (ax (cs:=cs)) (ae (pv 1)<|ae (pv 2) ag)))) (ao (k7 aE rfl (t.n4.d3 rfl) (M9 (cs:=cs) t) fj rfl t.kR.m t.n4.b (ax (cs:=cs)))) a_)<|
   ak (zt (a0 u5 (cf d5 (aQ (pv 0) rfl) (pv 1) (fun _ _=>rfl)) (fe vS (a0 jh aM (pv 2)))) (zo (aQ (pv 0) rfl) (pv 1) set_list))<|
   ao (aD aM),?_⟩
  refine⟨_,rfl,ga,_,_,rfl,G.obj,rfl,_,rfl,_,rfl,ga,dg,la,lb,lc,nv,ms,g,needs,i,j,rfl,G,fun h1=>?_,k1⟩;have k:=k2 h1;rw[Bool.and_eq_true] at h1;obtain⟨a,rfl,ha⟩:=mI h1.1;obtain⟨b,rfl,hb⟩:=mI h1.2;rw[Int.toNat_natCast,Int.toNat_natCast,<-G.rel.bit a b ha] at k;have get:=oO (l:=needs) (i:=a) (by rw[G.rel.len];exact ha);dsimp only [rW,d6,de,Ends.d9];refine aS (!(needs.getD a 0).testBit b) (fun Rb hR=>⟨_,rfl,ga,_,_,rfl,G.obj,rfl,_,rfl,_,rfl,ga,dg,la,lb,lc,nv,ms,g,needs,a,b,rfl,G,ha,_,rfl,hR⟩) (fun z=>?_) fun z=>?_
  ·rw[Bool.not_eq_true'] at z;rw[if_neg (by rw[z];decide),if_pos rfl] at k;exact⟨Nat.zero_le _,fun d hd=>d4 t.kR [] rfl hd k⟩
  ·rw[Bool.not_eq_false'] at z;rw[if_pos z] at k;refine⟨_,rfl,ga,_,_,_,_,rfl,G.obj,t.aX.cl,t.aX.nn,rfl,_,rfl,lc,_,_,_,rfl,rfl,aA.of G.need,at_of (j:=a) rfl (e_ get),_,rfl,b,rfl,rfl,(by have:=G.le;omega),_,rfl,_,_,rfl,rfl,_,rfl,ga,_,_,_,_,rfl,G.obj,t.aX.cl,t.aX.nn,rfl,_,rfl,lc,_,_,a,rfl,rfl,G.need,LQ (by rw[a8,G.rel.len];exact ha),?_⟩;rw[<-yP];refine k _ _ (fun c o e n=>by rw[aj (fun q=>n (.inr (.inr (.inl q))))];exact e) (G.GA ha (yO (pj G.rel.low a) _) fun c nd bE=>?_);rw[gb,lq,G.rel.bit a c ha];unfold Vabldl.needsOf;rw[bE];show _=(nd.needs.filter fun z=>z != b).contains c;rw[Bool.eq_iff_iff,Bool.and_eq_true,List.contains_iff_mem,List.contains_iff_mem,List.mem_filter,Bool.not_eq_true',decide_eq_false_iff_not,bne_iff_ne];exact⟨fun h=>⟨h.1,fun q=>h.2 q.symm⟩,fun h=>⟨h.1,fun q=>h.2 q.symm⟩⟩
def pL(g:VG)(a:Nat)(f:List (VT×VT)->List (VT×VT)):VG:=g.modify a fun z=>{z with marks:=f z.marks}
theorem u0(g:VG)(a:Nat)(f:List (VT×VT)->List (VT×VT))(i:Nat):(pL g a f)[i]? =(g[i]?).map fun z=>if i=a then {z with marks:=f z.marks} else z:=by
 unfold pL;rw[List.getElem?_modify];cases g[i]? with
 |none=>rfl
 |some z=>
  show some (if a=i then _ else z)=some (if i=a then _ else z)
  by_cases h:a=i
  ·rw[if_pos h,if_pos h.symm]
  ·rw[if_neg h,if_neg (fun q=>h q.symm)]
theorem Pp(g:VG)(a:Nat)(f:List (VT×VT)->List (VT×VT)):(pL g a f).length=g.length:=List.length_modify ..
def mkMap(n x:VT)(l:List (VT×VT)):List (VT×VT):=l.map fun m=>if m.1==n then(n,x) else m
theorem lh.any{H:Hp}{af:List (List Key×V)}{ms:List (VT×VT)}(h:lh H af ms)(n:VT):(af.any fun kv=>decide (kv.1=cw n))=ms.any fun y=>y.1==n:=by
 induction h with
 |nil=>rfl
 | @cons kv m af ms hd tl ih=>
  rw[List.any_cons,List.any_cons,ih]
  congr 1
  rw[hd.1,Bool.eq_iff_iff,decide_eq_true_eq,beq_iff_eq];exact⟨vy,fun h=>by rw[h]⟩
theorem lh.map{H:Hp}{af:List (List Key×V)}{ms:List (VT×VT)}{n x:VT}{v:V}(h:lh H af ms)(hv:cW H v x):lh H (af.map fun kv=>if kv.1=cw n then(kv.1,v) else kv) (mkMap n x ms):=by
 unfold mkMap
 induction h with
 |nil=>exact .nil
 | @cons kv m af ms hd tl ih=>
  rw[List.map_cons,List.map_cons];refine .cons ?_ ih
  by_cases e:m.1=n
  ·rw[if_pos (by rw[hd.1,e]),if_pos (beq_iff_eq.mpr e)];exact⟨by rw[hd.1,e],hv⟩
  ·rw[if_neg (by rw[hd.1];exact fun q=>e (vy q)),if_neg (fun q=>e (beq_iff_eq.mp q))];exact hd
theorem Oh(n x:VT)(l:List (VT×VT)):(mkMap n x l).map (·.1)=l.map (·.1):=by
 unfold mkMap;rw[List.map_map];refine List.map_congr_left fun m _=>?_;show(if(m.1==n)=true then(n,x) else m).1=m.1
 by_cases e:(m.1==n)=true
 ·rw[if_pos e];exact(beq_iff_eq.mp e).symm
 ·rw[if_neg e]
theorem bx.Gz{t:Tx K mg w}{H:Hp}{ga dg la lb lc:Addr}{nv:List V}{ms:List Addr}{g:VG}{needs:List Nat}(G:bx t H ga dg la lb lc nv ms g needs){a:Nat}{m:Addr}{nd:Vabldl.Node}{af:List (List Key×V)}{f:List (VT×VT)->List (VT×VT)}(bE:g[a]? =some nd)(hm:ms[a]? =some m)(hr:lh H af (f nd.marks))(h8:af.length<=8)(hn:((f nd.marks).map (·.1)).Nodup):
  bx t (upd H m (.dT af)) ga dg la lb lc nv ms (pL g a f) needs:=by
 obtain⟨v0,m0,YL,Lg,WO⟩:=G.node a nd bE;rw[hm] at Lg;cases Lg;obtain⟨Za,Wz⟩:=WO.mW;have ne: ∀b o,H b=some o->(∀xs,o≠ .dT xs)->b≠m:=fun b o e n q=>by rw[q,Wz] at e;cases e;exact n _ rfl
 have hi: ∀b C dx fs,H b=some (.ins C dx fs)->(upd H m (.dT af)) b=some (.ins C dx fs):=fun b C dx fs e=>by rw[aj (ne _ _ e (by intro xs q;cases q))];exact e
 have ht: ∀b xs,H b=some (.tup xs)->(upd H m (.dT af)) b=some (.tup xs):=fun b xs e=>by rw[aj (ne _ _ e (by intro xs q;cases q))];exact e
 have hl:=Pp g a f;have jE:lb≠m:=fun q=>G.jE (by rw[q];exact List.mem_of_getElem? hm);refine⟨hi _ _ _ _ G.obj,by rw[aj (ne _ _ G.nodes (by intro xs q;cases q))];exact G.nodes,?_,by rw[aj (ne _ _ G.need (by intro xs q;cases q))];exact G.need,by rw[hl];exact G.len,by rw[hl];exact G.gr,fun i eK e=>?_,G.nd,G.jE,G.kz,⟨by rw[hl];exact G.rel.len,by rw[hl];exact G.rel.low,fun x b hx=>?_⟩,by rw[hl];exact G.le,fun eK bE=>?_⟩
 ·rw[aj jE,G.names,E3 hl fun i nd eK e1 e2=>?_];rw[u0,e1] at e2;cases e2;show(if i=a then _ else _:Vabldl.Node).name=_
  split<;>rfl
 ·rw[u0] at e;obtain⟨l8,e0,rfl⟩:=Option.map_eq_some_iff.mp e;obtain⟨v,mm,e1,e2,hN⟩:=G.node i l8 e0;refine⟨v,mm,e1,e2,?_⟩
  by_cases q:i=a
  ·subst q;rw[bE] at e0;cases e0;rw[hm] at e2;cases e2;rw[if_pos rfl];obtain⟨x,dx,nm,kd,Ag,h1,h2,h3,h4,h5,h6,h7,YQ⟩:=hN;exact⟨x,dx,nm,kd,af,h1,hi _ _ _ _ h2,h3.keep ht,h4.keep ht,au,Paired.c5 (fun a c g=>⟨g.1,g.2.keep ht⟩) hr,h8,hn⟩
  ·rw[if_neg q];have nm:mm≠m:=fun z=>q (J5 G.nd (by rw[z] at e2;exact e2) hm);exact hN.keep hi ht (aj nm) rfl rfl rfl
 ·rw[hl] at hx;rw[G.rel.bit x b hx];unfold Vabldl.needsOf;rw[u0];obtain⟨l8,VB⟩: ∃nd,g[x]? =some nd:=⟨_,List.getElem?_eq_getElem hx⟩;rw[VB];show l8.needs.contains b=(if x=a then {l8 with marks:=f l8.marks} else l8:Vabldl.Node).needs.contains b
  by_cases q:x=a
  ·rw[if_pos q]
  ·rw[if_neg q]
 ·obtain⟨i,hi⟩:=List.mem_iff_getElem?.mp bE;rw[u0] at hi;obtain⟨l8,e0,rfl⟩:=Option.map_eq_some_iff.mp hi;have:=G.good l8 (List.mem_of_getElem? e0)
  split<;>exact this
inductive Jw(t:Tx K mg w)(vs:List V)(H:Hp)(Q:VK)(E:XK):Prop
 |mk(ga dg la lb lc:Addr)(nv:List V)(ms:List Addr)(g:VG)(needs:List Nat)(i:Int)(p1 p2:Addr)(n x:VT):vs=[.ref ga,.int i,.ref p1,.ref p2]->bx t H ga dg la lb lc nv ms g needs->H p1=some (.tup (nums n))->H p2=some (.tup (nums x))->n.length<sizeLine->x.length<sizeLine->(okN g i=false->Throws H t.eX.C (b8 (-4)) E)->(okN g i=true->(Vabldl.goodText n&&Vabldl.goodText x)=false->Throws H t.iy.C (b8 (-1)) E)->(okN g i=true->(Vabldl.goodText n&&Vabldl.goodText x)=true-> ∀nd,g[i.toNat]? =some nd->
  if(nd.marks.any fun y=>y.1==n)=true then ∀H',mN (Gm la lb lc ms) H H'->bx t H' ga dg la lb lc nv ms (pL g i.toNat (mkMap n x)) needs->Q (.int 0) H'
  else if 8<=nd.marks.length then Throws H t.gM.C (b8 (-3)) E
  else ∀H',mN (Gm la lb lc ms) H H'->bx t H' ga dg la lb lc nv ms (pL g i.toNat fun l=>l++[(n,x)]) needs->Q (.int 0) H')->Jw t vs H Q E
theorem vh{x:VT}(h:Vabldl.goodText x=true):x.length<=40:=by
 rw[xR,Bool.and_eq_true,Bool.and_eq_true] at h;exact of_decide_eq_true h.1.2
theorem Ou(t:Tx K mg w):aB P w K mg base (aC P w cs) 8 t.oq.f t.oq.fd ["self","number","name","text"] (Jw t):=by
 refine t.oq.F.aJ true Cb (fun vs H Q E h=>?_) (fun ay A outer s H vs Q E hr h=>?_)
 ·obtain⟨ga,dg,la,lb,lc,nv,ms,g,needs,i,p1,p2,n,x,rfl,_⟩:=h;rfl
 ·obtain⟨ga,dg,la,lb,lc,nv,ms,g,needs,i,p1,p2,n,x,rfl,G,e1,e2,z1,z2,k1,k2,k3⟩:=h;obtain⟨tm,em⟩:=t.DN;have bj:az 5 _:=hr.mono (by decide);have fj:az 3 _:=hr.mono (by decide);refine⟨_,ak (bA (bz (pv 0) t.aX.cl t.i9.me (xE (cs:=cs) t) bj t.i9.b .nil aE.passes (ae (pv 1) ag)))<|
   ak (bA (aK t.kU (ux (cs:=cs) t) hr aE.passes (ae (pv 2) ag)))<|
   ak (bA (aK t.kU (ux (cs:=cs) t) hr aE.passes (ae (pv 3) ag)))<|
   ak (aT 4 Cb.nd (aQ (cf d5 (aQ (pv 0) rfl) (pv 1) (fun _ _=>rfl)) rfl))<|
   ak (a9 (PW.pt (mK (bg dE (bV Pb rfl t.dy rfl (ae (pv 4) ag)) (bw (v:= .int 8) rfl em ⟨_,rfl⟩) (bc _)) (mG (vO (E6 (u1 hr.units) (pv 2) (pv 4)) rfl))))
    (ao (k7 aE rfl (t.kJ.d3 rfl) (CJ (cs:=cs) t) fj rfl t.gM.m t.kJ.b (ax (cs:=cs)))) a_)<|
   ak (y8 (u1 hr.units) (pv 4) (pv 2) (pv 3) rfl)<|
   ao (aD aM),?_⟩
  refine⟨_,rfl,ga,_,_,rfl,G.obj,rfl,_,rfl,ga,dg,la,lb,lc,nv,ms,g,needs,i,rfl,G,fun h1=>?_,k1⟩;refine⟨_,rfl,p1,n,rfl,e1,z1,fun g1 H1 s1=>?_,fun g1=>k2 h1 (by rw[g1];rfl)⟩;refine⟨_,rfl,p2,x,rfl,s1 _ _ e2,z2,fun g2 H2 s2=>?_,fun g2=>(k2 h1 (by rw[g1,g2];rfl)).same s1⟩;have k:=k3 h1 (by rw[g1,g2];rfl);obtain⟨a,rfl,ha⟩:=mI h1;obtain⟨nd,bE⟩: ∃nd,g[a]? =some nd:=⟨_,List.getElem?_eq_getElem ha⟩;rw[Int.toNat_natCast] at k;have k:=k nd bE;have cR:=s1.trans s2;have G2:=G.same cR;obtain⟨v,m,ev,eG,hN⟩:=G2.node a nd bE;obtain⟨xx,dx,nm,kd,af,rfl,ex,LI,LD,ek,qd,h8,Kt⟩:=id hN;refine⟨_,rfl,ga,_,_,_,_,rfl,G2.obj,t.aX.cl,t.aX.nn,rfl,_,rfl,la,_,_,_,rfl,rfl,aA.of G2.nodes,at_of (j:=a) rfl ev,xx,_,_,_,_,rfl,ex,t.d7.cl,t.d7.nn,rfl,?_⟩;dsimp only [d6,de,Ends.d9];have z7:=qd.any n;have bH:af.length=nd.marks.length:=Paired.length qd;have Vo:dM H2 m (.ref p1) (bM af (cw n)):=dM.t ek (by rw[o9];exact cR _ _ e1);have UB:(bM af (cw n)).isSome=nd.marks.any fun y=>y.1==n:=by
   rw[<-z7];unfold bM;rw[Option.isSome_map,Bool.eq_iff_iff,List.find?_isSome,List.any_eq_true]
  refine aS (decide (af.length=8)&& !(nd.marks.any fun y=>y.1==n)) (fun Rb hR=>?_) (fun z=>?_) fun z=>?_
  ·refine⟨_,rfl,m,af,rfl,ek,by omega,af.length,8,rfl,rfl,_,rfl,bS (fun q=>?_) fun q=>?_⟩
   ·rw[q,Bool.true_and] at hR;exact⟨_,rfl,_,rfl,m,_,rfl,Vo,_,rfl,by rw[UB];exact hR⟩
   ·rw[q,Bool.false_and] at hR;exact hR
  ·rw[Bool.and_eq_true,Bool.not_eq_true'] at z;rw[if_neg (by rw[z.2];decide),if_pos (by have:=of_decide_eq_true z.1;omega)] at k;exact⟨Nat.zero_le _,fun d hd=>d4 t.gM [] rfl hd (k.same cR)⟩
  ·have Mi:cW H2 (.ref p2) x:=⟨p2,rfl,cR _ _ e2,by have:=vh g2;omega⟩;refine⟨_,rfl,_,rfl,_,rfl,m,_,rfl,jZ.t ek (by rw[o9];exact cR _ _ e1) (Nat.lt_of_le_of_lt h8 (by decide)),?_⟩;have kg: ∀Ag,mN (Gm la lb lc ms) H (upd H2 m (.dT Ag)):=fun Ag c o e nb=>by
    rw[aj (fun q=>nb (.inr (.inr (.inr (by rw[q];exact List.mem_of_getElem? eG)))))];exact cR _ _ e
   by_cases hx:(nd.marks.any fun y=>y.1==n)=true
   ·rw[if_pos hx] at k;have pk:putK af (cw n) (.ref p2)=af.map fun kv=>if kv.1=cw n then(kv.1,.ref p2) else kv:=by
     unfold putK;rw[if_pos (by rw[z7];exact hx)]
    rw[pk];exact k _ (kg _) (G2.Gz bE eG (qd.map Mi) (by rw[List.length_map];exact h8) (by rw[Oh];exact Kt))
   ·rw[if_neg hx] at k;have hx:(nd.marks.any fun y=>y.1==n)=false:=by cases h:(nd.marks.any fun y=>y.1==n) with |false=>rfl |true=>exact absurd h hx
    rw[hx,Bool.not_false,Bool.and_true] at z;have z:=of_decide_eq_false z;rw[if_neg (by omega)] at k;have pk:putK af (cw n) (.ref p2)=af++[(cw n,.ref p2)]:=by
     unfold putK;rw[if_neg (by rw[z7,hx];decide)]
    rw[pk];refine k _ (kg _) (G2.Gz (f:=fun l=>l++[(n,x)]) bE eG (Paired.snoc qd ⟨rfl,Mi⟩) (by rw[List.length_append];show af.length+1<=8;omega) ?_);rw[List.map_append,List.nodup_append];refine⟨Kt,by simp,fun u hu v hv e=>?_⟩;rw[List.map_cons,List.map_nil,List.mem_singleton] at hv;obtain⟨y,hy,rfl⟩:=List.mem_map.mp hu;have:(nd.marks.any fun y=>y.1==n)=true:=List.any_eq_true.mpr ⟨y,hy,beq_iff_eq.mpr (e.trans hv)⟩;rw[hx] at this;cases this
theorem EX{g:VG}{needs:List Nat}{s u:Nat}(hu:u<2^g.length): ∃k,(∀j,j<k->lay (flipped g.length needs) g.length u j≠0/\lay (flipped g.length needs) g.length u j&&&s=0)/\(lay (flipped g.length needs) g.length u k=0∨lay (flipped g.length needs) g.length u k&&&s≠0):=by
 have step: ∀m,(∀j,j<m->lay (flipped g.length needs) g.length u j≠0/\lay (flipped g.length needs) g.length u j&&&s=0)∨ ∃k,(∀j,j<k->lay (flipped g.length needs) g.length u j≠0/\lay (flipped g.length needs) g.length u j&&&s=0)/\(lay (flipped g.length needs) g.length u k=0∨lay (flipped g.length needs) g.length u k&&&s≠0):=by
  intro m
  induction m with
  |zero=>exact .inl fun j hj=>absurd hj (by omega)
  |succ m ih=>
   rcases ih with ih |ih
   ·by_cases h:lay (flipped g.length needs) g.length u m=0∨lay (flipped g.length needs) g.length u m&&&s≠0
    ·exact .inr ⟨m,ih,h⟩
    ·refine .inl fun j hj=>?_
     by_cases e:j=m
     ·subst e;exact⟨fun z=>h (.inl z),Decidable.byContradiction fun z=>h (.inr z)⟩
     ·exact ih j (by omega)
   ·exact .inr ih
 rcases step (g.length+1) with h |h
 ·have:=rS (fo g.length needs) hu g.length fun j hj=>(h j (by omega)).1;have h2:=jl g.length (runM (flipped g.length needs) g.length g.length u);exact absurd this (by omega)
 ·exact h
theorem S3{g:VG}{needs:List Nat}(R:cX g needs){a b:Nat}(ha:a<g.length)(hb:b<g.length):((Vabldl.chosen g [a] [b]).length:Int)-1=match Vabldl.distance g a [b] with |some n=>(n:Int) |none=> -1:=by
 have hs:=lx ha;have hu:=lx hb;rw[N5];obtain⟨k,h0,h1⟩:=EX (needs:=needs) (s:=2^a) hu;have ea:=oZ ha;have eb:=oZ hb
 by_cases hz:lay (flipped g.length needs) g.length (2^b) k=0
 ·have i:=FY (s:=2^a) R hu (fun j hj=>(h0 j hj).2) hz;have c:=xJ (s:=2^a) R hu (fun j hj=>(h0 j hj).2) hz;rw[ea,eb] at i c;rw[i,c];rfl
 ·have h2:lay (flipped g.length needs) g.length (2^b) k&&&2^a≠0:=h1.resolve_left hz;have hn: ∀j,j<=k->lay (flipped g.length needs) g.length (2^b) j≠0:=fun j hj=>by
   rcases Nat.lt_or_eq_of_le hj with q |q
   ·exact(h0 j q).1
   ·rw[q];exact hz
  have i:=(yI (s:=2^a) R hu hs hn (fun j hj=>(h0 j hj).2) h2).2;have c:=xK (s:=2^a) R hu hs hn (fun j hj=>(h0 j hj).2) h2;rw[ea,eb] at i c;rw[i,c,yt,yF];show((k+1:Nat):Int)-1=(k:Int);omega
inductive Ke(t:Tx K mg w)(vs:List V)(H:Hp)(Q:VK)(E:XK):Prop
 |mk(ga dg la lb lc:Addr)(nv:List V)(ms:List Addr)(g:VG)(needs:List Nat)(i j:Int):vs=[.ref ga,.int i,.int j]->bx t H ga dg la lb lc nv ms g needs->((okN g i&&okN g j)=false->Throws H t.eX.C (b8 (-4)) E)->((okN g i&&okN g j)=true-> ∀H',ai H H'->Q (.int (match Vabldl.distance g i.toNat [j.toNat] with |some n=>(n:Int) |none=> -1)) H')->Ke t vs H Q E
def pS(n k:VT):Vabldl.Node:={name:=n,kind:=k,needs:=[],marks:=[]}
inductive Fq(t:Tx K mg w)(vs:List V)(H:Hp)(Q:VK)(E:XK):Prop
 |mk(ga dg la lb lc:Addr)(nv:List V)(ms:List Addr)(g:VG)(needs:List Nat)(p1 p2:Addr)(n x:VT):vs=[.ref ga,.ref p1,.ref p2]->bx t H ga dg la lb lc nv ms g needs->H p1=some (.tup (nums n))->H p2=some (.tup (nums x))->n.length<sizeLine->x.length<sizeLine->((Vabldl.goodText n&&Vabldl.goodText x)=false->Throws H t.iy.C (b8 (-1)) E)->((Vabldl.goodText n&&Vabldl.goodText x)=true->if(g.any fun y=>y.name==n)=true then Throws H t.kQ.C (b8 (-2)) E else if 64<=g.length then Throws H t.gM.C (b8 (-3)) E
  else ∀H' fH m,mN (Gm la lb lc ms) H H'->H m=none->bx t H' ga dg la lb lc fH (ms++[m]) (g++[pS n x]) (needs++[0])->Q (.int (g.length:Nat)) H')->Fq t vs H Q E
theorem Ht(g:VG)(n:VT):(g.findIdx? fun y=>y.name==n).isSome=g.any fun y=>y.name==n:=List.findIdx?_isSome
theorem Q8{g:VG}{needs:List Nat}(R:cX g needs)(n x:VT):cX (g++[pS n x]) (needs++[0]):=by
 refine⟨by rw[List.length_append,List.length_append,R.len];rfl,fun m hm=>?_,fun a b ha=>?_⟩
 ·rw[List.length_append];rcases List.mem_append.mp hm with h |h
  ·exact Nat.lt_of_lt_of_le (R.low m h) (Nat.pow_le_pow_right (by decide) (by omega))
  ·rw[List.mem_singleton] at h;rw[h];exact Nat.two_pow_pos _
 ·rw[List.length_append] at ha;have ha:a<g.length+1:=ha;unfold Vabldl.needsOf
  by_cases q:a<g.length
  ·rw[List.getD_eq_getElem?_getD,List.getElem?_append_left (by rw[R.len];exact q),List.getElem?_append_left q,<-List.getD_eq_getElem?_getD];exact R.bit a b q
  ·have e:a=g.length:=by omega
   subst e;rw[List.getD_eq_getElem?_getD,List.getElem?_append_right (by rw[R.len];exact Nat.le_refl _),R.len,Nat.sub_self,List.getElem?_append_right (Nat.le_refl _),Nat.sub_self];show(0:Nat).testBit b=([]:List Nat).contains b;rw[Nat.zero_testBit];rfl
theorem Tu(t:Tx K mg w):aB P w K mg base (aC P w cs) 9 t.oI.f t.oI.fd ["self","a","b"] (Ke t):=by
 refine t.oI.F.aJ true NT (fun vs H Q E h=>?_) (fun ay A outer s H vs Q E hr h=>?_)
 ·obtain⟨ga,dg,la,lb,lc,nv,ms,g,needs,i,j,rfl,_⟩:=h;rfl
 ·obtain⟨ga,dg,la,lb,lc,nv,ms,g,needs,i,j,rfl,G,k1,k2⟩:=h;have bB:az 6 _:=hr.mono (by decide);refine⟨_,ak (bA (bz (pv 0) t.aX.cl t.i_.me (xF (cs:=cs) t) bB t.i_.b .nil aE.passes (ae (pv 1)<|ae (pv 2) ag)))<|
   ao (aD (a0 r9 (bV dH rfl t.dy rfl (ae (aK t.mj (xC (cs:=cs) t) hr (ax (cs:=cs)) (ae (aQ (pv 0) rfl)<|ae (a0 jh aM (pv 1))<|ae (a0 jh aM (pv 2)) ag)) ag)) aM)),?_⟩
  refine⟨_,rfl,ga,_,_,rfl,G.obj,rfl,_,rfl,_,rfl,ga,dg,la,lb,lc,nv,ms,g,needs,i,j,rfl,G,fun h1=>?_,k1⟩;have k:=k2 h1;rw[Bool.and_eq_true] at h1;obtain⟨a,rfl,ha⟩:=mI h1.1;obtain⟨b,rfl,hb⟩:=mI h1.2;rw[Int.toNat_natCast,Int.toNat_natCast] at k;have:=G.le;refine⟨_,rfl,ga,_,_,_,_,rfl,G.obj,t.aX.cl,t.aX.nn,rfl,_,rfl,a,rfl,rfl,by omega,_,rfl,b,rfl,rfl,by omega,lc,needs,g,2^a,2^b,rfl,G.needs,G.rel,lx ha,lx hb,fun H' l hs hl el=>?_⟩;refine⟨l,_,rfl,.inl (aA.of el),_,_,rfl,rfl,?_⟩;rw[oZ ha,oZ hb,a8];have e:=S3 G.rel ha hb;have kk:=k H' hs;rw[<-e] at kk;exact kk
theorem Ol(t:Tx K mg w):aB P w K mg base (aC P w cs) 8 t.om.f t.om.fd ["self","name","kind"] (Fq t):=by
 refine t.om.F.aJ true Ca (fun vs H Q E h=>?_) (fun ay A outer s H vs Q E hr h=>?_)
 ·obtain⟨ga,dg,la,lb,lc,nv,ms,g,needs,p1,p2,n,x,rfl,_⟩:=h;rfl
 ·obtain⟨ga,dg,la,lb,lc,nv,ms,g,needs,p1,p2,n,x,rfl,G,e1,e2,z1,z2,k1,k2⟩:=h;obtain⟨tm,em⟩:=t.DO;have fj:az 3 _:=hr.mono (by decide);have cP:az 2 _:=hr.mono (by decide);refine⟨_,ak (bA (aK t.kU (ux (cs:=cs) t) hr aE.passes (ae (pv 1) ag)))<|
   ak (bA (aK t.kU (ux (cs:=cs) t) hr aE.passes (ae (pv 2) ag)))<|
   ak (a9 (vO (TF (u1 hr.units) (pv 1) (aQ (pv 0) rfl)) rfl) (ao (k7 aE rfl (t.n0.d3 rfl) (MU (cs:=cs) t) fj rfl t.kQ.m t.n0.b (ax (cs:=cs)))) a_)<|
   ak (aT 3 Ca.nd (bV dH rfl t.dy rfl (ae (aQ (pv 0) rfl) ag)))<|
   ak (a9 (bg dE (pv 3) (bw (v:= .int 64) rfl em ⟨_,rfl⟩) (bc _)) (ao (k7 aE rfl (t.kJ.d3 rfl) (CJ (cs:=cs) t) fj rfl t.gM.m t.kJ.b (ax (cs:=cs)))) a_)<|
   ak (bA (eQ PySem.F.plainAttrs_list PySem.F.slot_list_append PySem.F.type_list_append iD (aQ (pv 0) rfl) (ae (fO (t.oJ.fG rfl) (R9 (cs:=cs) t) cP rfl t.d7.m t.oJ.b .nil (ax (cs:=cs)) (ae (pv 1)<|ae (pv 2) ag)) ag)))<|
   ak (bA (eQ PySem.F.plainAttrs_list PySem.F.slot_list_append PySem.F.type_list_append iD (aQ (pv 0) rfl) (ae aM ag)))<|
   ak (y8 (u1 hr.units) (aQ (pv 0) rfl) (pv 1) (pv 3) rfl)<|
   ao (aD (pv 3)),?_⟩
  refine⟨_,rfl,p1,n,rfl,e1,z1,fun g1 H1 s1=>?_,fun g1=>k1 (by rw[g1];rfl)⟩;refine⟨_,rfl,p2,x,rfl,s1 _ _ e2,z2,fun g2 H2 s2=>?_,fun g2=>(k1 (by rw[g1,g2];rfl)).same s1⟩;have k:=k2 (by rw[g1,g2];rfl);have cR:=s1.trans s2;have G2:=G.same cR;have s_:dM H2 lb (.ref p1) ((g.findIdx? fun y=>y.name==n).map fun(i:Nat)=>V.int (i:Int)):=by
   rw[<-yn];exact dM.t G2.names (by rw[o9];exact cR _ _ e1)
  dsimp only [rW,d6,de,Ends.d9];refine aS (g.any fun y=>y.name==n) (fun Rb hR=>⟨_,rfl,_,rfl,ga,_,_,_,_,rfl,G2.obj,t.aX.cl,t.aX.nn,rfl,lb,_,rfl,s_,_,rfl,by rw[Option.isSome_map,Ht];exact hR⟩) (fun z=>?_) fun z=>?_
  ·rw[if_pos z] at k;exact⟨Nat.zero_le _,fun d hd=>d4 t.kQ [] rfl hd (k.same cR)⟩
  rw[if_neg (by rw[z];decide)] at k;refine⟨_,rfl,ga,_,_,_,_,rfl,G2.obj,t.aX.cl,t.aX.nn,rfl,la,_,rfl,.inl (aA.of G2.nodes),?_⟩;rw[G2.len];dsimp only [d6,de,Ends.d9];refine aS (decide (g.length=64)) (fun Rb hR=>⟨_,rfl,g.length,64,rfl,rfl,_,rfl,hR⟩) (fun Br=>?_) fun Br=>?_
  ·rw[if_pos (by have:=of_decide_eq_true Br;omega)] at k;exact⟨Nat.zero_le _,fun d hd=>d4 t.gM [] rfl hd (k.same cR)⟩
  have le:=G.le;have Ys:g.length<64:=by have:=of_decide_eq_false Br;omega
  rw[if_neg (by omega)] at k;have Tp:(g.findIdx? fun y=>y.name==n)=none:=by
   have:=Ht g n;rw[z] at this;cases h:g.findIdx? fun y=>y.name==n with
   |none=>rfl
   |some i=>rw[h] at this;cases this
  refine⟨_,rfl,ga,_,_,_,_,rfl,G2.obj,t.aX.cl,t.aX.nn,rfl,.inl ⟨rfl,_,aA.of G2.nodes⟩,_,rfl,_,rfl,fun b db hb bC bo=>?_⟩;refine⟨b,db,.ref p1,.ref p2,rfl,au,fun H3 m k3 hm Xe WG Wx=>⟨rfl,?_⟩⟩;have s3:ai H2 H3:=fun c o e=>k3 c o (by rw[aj (aR e hb),aj (aR e bC)];exact e) (aR e hb);have iY:H2 m=none:=by
   cases h:H2 m with
   |none=>rfl
   |some o=>
    rw[aj Xe] at hm
    by_cases q:m=db
    ·rw[q,au] at hm;cases hm
    ·rw[aj q,h] at hm;cases hm
  have G3:=G2.same s3;have i8:=cR.trans s3;refine⟨la,_,_,rfl,rfl,G3.nodes,by rw[G.len];exact kf le,?_⟩;generalize hH4:upd H3 la (.lst (nv++[.ref b]))=H4;have o4:H4 ga=some (.ins t.aX.C dg (pA (.ref la) (.ref lb) (.ref lc))):=by rw[<-hH4,aj (fun q=>by have:=G3.obj;rw[q,G3.nodes] at this;cases this)];exact G3.obj
  have c4:H4 lc=some (.lst (nums needs)):=by rw[<-hH4,aj (Ne.symm G.kz)];exact G3.need
  refine⟨_,rfl,ga,_,_,_,_,rfl,o4,t.aX.cl,t.aX.nn,rfl,.inl ⟨rfl,_,aA.of c4⟩,lc,_,_,rfl,rfl,c4,by rw[a8,G.rel.len];exact kf le,?_⟩;rw[show nums needs++[V.int 0]=nums (needs++[0]) from(rk needs 0).symm];generalize hH5:upd H4 lc (.lst (nums (needs++[0])))=H5;have tr: ∀c o,H3 c=some o->c≠la->c≠lc->H5 c=some o:=fun c o e n1 n2=>by rw[<-hH5,aj n2,<-hH4,aj n1];exact e
  have nl: ∀c o,H3 c=some o->(∀xs,o≠ .lst xs)->c≠la/\c≠lc:=fun c o e n=>⟨fun q=>by rw[q,G3.nodes] at e;cases e;exact n _ rfl,fun q=>by rw[q,G3.need] at e;cases e;exact n _ rfl⟩;have xk: ∀c o,H3 c=some o->(∀xs,o≠ .lst xs)->H5 c=some o:=fun c o e n=>tr c o e (nl c o e n).1 (nl c o e n).2;have o5:=xk _ _ G3.obj (by intro xs q;cases q);have b5:=xk _ _ G3.names (by intro xs q;cases q);have p5:=xk _ _ (i8 _ _ e1) (by intro xs q;cases q);refine⟨_,rfl,_,rfl,ga,_,_,_,_,rfl,o5,t.aX.cl,t.aX.nn,rfl,_,rfl,lb,_,rfl,jZ.t b5 (by rw[o9];exact p5) ?_,?_⟩
  ·unfold hG;rw[List.length_map,List.length_zipIdx];exact kf le
  rw[Q5 (by rw[yn,Tp];rfl),show hG g++[(cw n,V.int (g.length:Int))]=hG (g++[pS n x]) from(OZ g (pS n x)).symm];refine⟨_,rfl,?_⟩;generalize hH6:upd H5 lb (.dT (hG (g++[pS n x])))=H6;have kF: ∀c o,H3 c=some o->c≠lb->(∀xs,o≠ .lst xs)->H6 c=some o:=fun c o e n1 n2=>by rw[<-hH6,aj n1];exact xk c o e n2
  have Af: ∀c C dx fs,H3 c=some (.ins C dx fs)->H6 c=some (.ins C dx fs):=fun c C dx fs e=>kF _ _ e (fun q=>by rw[q,G3.names] at e;cases e) (by intro xs q;cases q);have An: ∀c xs,H3 c=some (.tup xs)->H6 c=some (.tup xs):=fun c xs e=>kF _ _ e (fun q=>by rw[q,G3.names] at e;cases e) (by intro xs q;cases q);have Ks:m≠lb:=fun q=>by rw[q,G2.names] at iY;cases iY
  have Wt:H6 la=some (.lst (nv++[.ref b])):=by
   rw[<-hH6,aj (fun q=>by have:=G3.names;rw[<-q,G3.nodes] at this;cases this),<-hH5,aj G.kz,<-hH4,au]
  have Wu:H6 lc=some (.lst (nums (needs++[0]))):=by
   rw[<-hH6,aj (fun q=>by have:=G3.names;rw[<-q,G3.need] at this;cases this),<-hH5,au]
  have fV:H m=none:=cR.free iY;refine k H6 (nv++[.ref b]) m (fun c o e nb=>?_) fV ⟨Af _ _ _ _ G3.obj,Wt,by rw[<-hH6,au],Wu,by rw[List.length_append,List.length_append,G.len];rfl,by rw[List.length_append,List.length_append,G.gr];rfl,fun i nd e=>?_,?_,?_,G.kz,Q8 G.rel n x,by rw[List.length_append];show g.length+1<=64;omega,fun nd bE=>?_⟩
  ·rw[<-hH6,aj (fun q=>nb (.inr (.inl q))),<-hH5,aj (fun q=>nb (.inr (.inr (.inl q)))),<-hH4,aj (fun q=>nb (.inl q))];exact i8 _ _ e
  ·by_cases q:i<g.length
   ·rw[List.getElem?_append_left q] at e;obtain⟨v,mm,ev,eG,hN⟩:=G3.node i nd e;refine⟨v,mm,by rw[List.getElem?_append_left (by rw[G.len];exact q)];exact ev,by rw[List.getElem?_append_left (by rw[G.gr];exact q)];exact eG,?_⟩;obtain⟨af,ek⟩:=hN.mW;have:H6 mm=H3 mm:=by rw[ek];exact kF _ _ ek (fun z=>G.jE (by rw[<-z];exact List.mem_of_getElem? eG)) (by intro xs q;cases q)
    exact hN.keep Af An this rfl rfl rfl
   ·rw[List.getElem?_append_right (by omega)] at e;have hi:i=g.length:=by
     have:=(List.getElem?_eq_some_iff.mp e).1;have:i-g.length<1:=this;omega
    subst hi;rw[Nat.sub_self] at e;cases e;refine⟨.ref b,m,by rw[List.getElem?_append_right (by rw[G.len];exact Nat.le_refl _),G.len,Nat.sub_self];rfl,by rw[List.getElem?_append_right (by rw[G.gr];exact Nat.le_refl _),G.gr,Nat.sub_self];rfl,?_⟩;refine⟨b,db,.ref p1,.ref p2,[],rfl,Af _ _ _ _ Wx,⟨p1,rfl,An _ _ (i8 _ _ e1),Nat.le_trans (vh g1) (by decide)⟩,⟨p2,rfl,An _ _ (i8 _ _ e2),Nat.le_trans (vh g2) (by decide)⟩,kF _ _ WG Ks (by intro xs q;cases q),.nil,by decide,List.nodup_nil⟩
  ·rw[List.nodup_append];refine⟨G.nd,by simp,fun u hu v hv e=>?_⟩;rw[List.mem_singleton] at hv;subst hv;subst e;obtain⟨i,hi⟩:=List.mem_iff_getElem?.mp hu;obtain⟨nd,bE⟩: ∃nd,g[i]? =some nd:=⟨_,List.getElem?_eq_getElem (by rw[<-G.gr];exact(List.getElem?_eq_some_iff.mp hi).1)⟩;obtain⟨v,mm,ev,eG,hN⟩:=G2.node i nd bE;rw[hi] at eG;cases eG;obtain⟨af,ek⟩:=hN.mW;rw[iY] at ek;cases ek
  ·intro ka;rcases List.mem_append.mp ka with h |h
   ·exact G.jE h
   ·rw[List.mem_singleton] at h;exact Ks h.symm
  ·rcases List.mem_append.mp bE with h |h
   ·exact G.good nd h
   ·rw[List.mem_singleton] at h;rw[h];exact vh g1
end Bp
namespace Bp
open Bq
variable{K:FG}{mg:Str->Option Value}{w:World}{P:Program}{base:Heap}{cs:Addr}
open Vabldl (Tok Text Sub Got Query)
def dW(ts r:List Tok)(c:Nat):Prop:=r=ts.drop c/\c<=ts.length
theorem dW.refl(ts:List Tok):dW ts ts 0:=⟨rfl,Nat.zero_le _⟩
theorem dW.trans{ts r q:List Tok}{c d:Nat}(h:dW ts r c)(k:dW r q d):dW ts q (c+d):=by
 obtain⟨rfl,h2⟩:=h;obtain⟨rfl,k2⟩:=k;rw[List.length_drop] at k2;exact⟨List.drop_drop ..,by omega⟩
def GT(ts:List Tok):Prop:= ∀tk∈ts,vo tk
theorem GT.gJ{ts r:List Tok}{c:Nat}(g:GT ts)(h:dW ts r c):GT r:=by
 obtain⟨rfl,_⟩:=h;exact fun tk eV=>g tk (List.mem_of_mem_drop eV)
theorem gU{ts:List Tok}(h:(Vabldl.next ts).kind≠0):dW ts (ts.drop 1) 1/\Vabldl.next ts∈ts:=by
 cases ts with
 |nil=>exact absurd rfl h
 |cons a r=>exact⟨⟨rfl,Nat.succ_le_succ (Nat.zero_le _)⟩,List.mem_cons_self⟩
theorem px{A:Type}{s:String}{ts:List Tok}{f:List Tok->Got A}{x:A×List Tok}(h:Vabldl.sign s ts f= .ok x): ∃r,dW ts r 1/\f r= .ok x:=by
 unfold Vabldl.sign at h
 split at h
 ·rename_i hs
  exact⟨_,(gU (by rw[(gP.mp hs).1];decide)).1,h⟩
 ·cases h
theorem Rr{A:Type}{s:String}{ts:List Tok}{f:List Tok->Got A}{x:A×List Tok}(h:Vabldl.word s ts f= .ok x): ∃r,dW ts r 1/\f r= .ok x:=by
 unfold Vabldl.word at h
 split at h
 ·rename_i hs
  exact⟨_,(gU (by rw[(jd.mp hs).1];decide)).1,h⟩
 ·cases h
theorem gg{A B:Type}{g:Got A}{f:A->List Tok->Got B}{x:B×List Tok}(h:Vabldl.andThen g f= .ok x): ∃a r,g= .ok (a,r)/\f a r= .ok x:=by
 cases g with
 |error e=>cases h
 |ok y=>exact⟨y.1,y.2,rfl,h⟩
theorem PM{A:Type}{ts:List Tok}{f:Text->List Tok->Got A}{x:A×List Tok}(g:GT ts)(h:Vabldl.quoted ts f= .ok x): ∃t r,dW ts r 1/\t.length<=40/\f t r= .ok x:=by
 unfold Vabldl.quoted at h
 split at h
 ·rename_i hk
  obtain⟨h1,h2⟩:=gU (ts:=ts) (by rw[hk];decide);exact⟨_,_,h1,(g _ h2).Mb hk,h⟩
 ·cases h
def Wd(vs:List Text)(ts r:List Tok)(q:Query):Prop:=b7 vs q/\ ∃c,dW ts r c/\(Vabldl.plain q).length+2<=50*c
def pJ(sub:Sub):Prop:= ∀vs ts q r,GT ts->sub vs ts= .ok (q,r)->Wd vs ts r q
theorem G5: ∀(k:Nat)(ts:List Tok)(tx:List Text)(r:List Tok),GT ts->ej k ts= .ok (tx,r)->tx.length=k/\(∀x∈tx,x.length<=40)/\dW ts r (2*k)
 |0,ts,tx,r,g,h=>by cases h;exact⟨rfl,(fun x hx=>by cases hx),dW.refl _⟩
 |k+1,ts,tx,r,g,h=>by
  obtain⟨t,r1,s1,l1,h⟩:=PM g h;obtain⟨r2,s2,h⟩:=px h;obtain⟨l,r3,e,h⟩:=gg h;cases h;obtain⟨a1,a2,a3⟩:=G5 k r2 l _ (g.gJ (s1.trans s2)) e;refine⟨by rw[List.length_cons,a1],fun x hx=>?_,?_⟩
  ·rcases List.mem_cons.mp hx with rfl |hx
   ·exact l1
   ·exact a2 x hx
  ·have:=(s1.trans s2).trans a3;rw[show 1+1+2*k=2*(k+1) by omega] at this;exact this
def wm(qs:List Query):Nat:=(qs.map fun q=>(Vabldl.plain q).length+2).sum
theorem Ga{sub:Sub}(S:pJ sub)(vs:List Text): ∀(m:Nat)(ts:List Tok)(qs:List Query)(r:List Tok),GT ts->iL sub vs m ts= .ok (qs,r)->qs.length=m+1/\(∀q∈qs,b7 vs q)/\ ∃c,dW ts r c/\wm qs<=50*c
 |0,ts,qs,r,g,h=>by
  obtain⟨x,r1,e,h⟩:=gg h;cases h;obtain⟨s1,c,s2,s3⟩:=S vs ts x _ g e;exact⟨rfl,fun q hq=>by rw[List.mem_singleton] at hq;rw[hq];exact s1,c,s2,by show(Vabldl.plain x).length+2+0<=_;omega⟩
 |m+1,ts,qs,r,g,h=>by
  obtain⟨x,r1,e,h⟩:=gg h;obtain⟨s1,c,s2,s3⟩:=S vs ts x _ g e;obtain⟨r2,s4,h⟩:=px h;obtain⟨l,r3,e2,h⟩:=gg h;cases h;obtain⟨a1,a2,c2,a3,a4⟩:=Ga S vs m r2 l _ (g.gJ (s2.trans s4)) e2;refine⟨by rw[List.length_cons,a1],fun q hq=>?_,_,(s2.trans s4).trans a3,?_⟩
  ·rcases List.mem_cons.mp hq with rfl |hq
   ·exact s1
   ·exact a2 q hq
  ·show(Vabldl.plain x).length+2+wm l<=_;omega
theorem Qh{qo:Bool}{ts:List Tok}{n:Option Nat}{r:List Tok}(g:GT ts)(h:jU qo ts= .ok (n,r)):(qo=false->n=none)/\ ∃c,dW ts r c/\(jt n).length*4<=50*c:=by
 unfold jU at h
 split at h
 ·rename_i hm
  split at h
  ·rename_i hk
   cases h;obtain⟨s1,_⟩:=gU (ts:=ts) (by rw[(gP.mp hm.2).1];decide);obtain⟨s2,_⟩:=gU (ts:=ts.drop 1) (by rw[hk];decide);refine⟨(fun e=>by rw[hm.1] at e;cases e),2,?_,by show 1*4<=100;decide⟩;have:=s1.trans s2;rw[List.drop_drop] at this;exact this
  ·cases h
 ·cases h;exact⟨fun _=>rfl,0,dW.refl _,Nat.le_refl _⟩
theorem IS: ∀rows:List Text,(gl rows).length<=(rows.map fun p=>p.length+2).sum
 |[]=>Nat.le_refl _
 |[a]=>by show a.length<=a.length+2+0;omega
 |a::b::r=>by
  have:=IS (b::r);show(a++(gy++gl (b::r))).length<=a.length+2+((b::r).map fun p=>p.length+2).sum;rw[List.length_append,List.length_append,show gy.length=2 by decide];omega
theorem E_: ∀tx:List Text,(∀x∈tx,x.length<=40)->((tx.map Vabldl.quote).map fun p=>p.length+2).sum<=44*tx.length
 |[],_=>Nat.le_refl _
 |x::tx,h=>by
  have h1:=h x (by simp);have h2:=E_ tx fun y hy=>h y (List.mem_cons_of_mem _ hy);show(34::(x++[34])).length+2+_<=_;rw[List.length_cons,List.length_append,List.length_cons];show x.length+1+1+2+((tx.map Vabldl.quote).map fun p=>p.length+2).sum<=44*(tx.length+1);omega
theorem RD(n:Option Nat):((jt n).map fun p=>p.length+2).sum<=(jt n).length*4:=by
 cases n with
 |none=>exact Nat.le_refl _
 |some k=>have:=Hk k;show(Vabldl.decimal k).length+2+0<=1*4;omega
theorem Px{wd:String}(hw:wd∈cD){tx:List Text}{qs:List Query}{bf:Option Nat}(hl:qs.length=(shapeOf wd).2.1+1){vs:List Text}(h: ∀q∈qs,b7 vs q):b7 vs (Bq.ft wd tx qs bf):=by
 simp only [cD,List.mem_cons,List.not_mem_nil,or_false] at hw;rcases hw with rfl |rfl |rfl |rfl |rfl |rfl |rfl |rfl |rfl |rfl
 ·obtain⟨a,rfl⟩:=cI hl;exact h a (by simp)
 ·obtain⟨a,b,rfl⟩:=hU hl;exact⟨h a (by simp),h b (by simp)⟩
 ·obtain⟨a,b,rfl⟩:=hU hl;exact⟨h a (by simp),h b (by simp)⟩
 ·obtain⟨a,b,rfl⟩:=hU hl;exact⟨h a (by simp),h b (by simp)⟩
 ·obtain⟨a,rfl⟩:=cI hl;exact h a (by simp)
 ·obtain⟨a,rfl⟩:=cI hl;exact h a (by simp)
 ·obtain⟨a,rfl⟩:=cI hl;exact h a (by simp)
 ·obtain⟨a,rfl⟩:=cI hl;exact h a (by simp)
 ·obtain⟨a,rfl⟩:=cI hl;exact h a (by simp)
 ·obtain⟨a,rfl⟩:=cI hl;exact h a (by simp)
theorem Rx{sub:Sub}(S:pJ sub){vs:List Text}{wd:String}(hw:wd∈cD){ts:List Tok}{q:Query}{r:List Tok}(g:GT ts)(h:qV sub vs wd ts= .ok (q,r)):b7 vs q/\ ∃c,dW ts r c/\(Vabldl.plain q).length+2<=50*(c+1):=by
 unfold qV fv at h;obtain⟨r1,s1,h⟩:=px h;obtain⟨tx,r2,e2,h⟩:=gg h;obtain⟨t1,t2,s2⟩:=G5 _ r1 tx r2 (g.gJ s1) e2;obtain⟨qs,r3,e3,h⟩:=gg h;obtain⟨p1,p2,c3,s3,p3⟩:=Ga S vs _ r2 qs r3 (g.gJ (s1.trans s2)) e3;obtain⟨n,r4,e4,h⟩:=gg h;obtain⟨b1,c4,s4,b2⟩:=Qh (g.gJ ((s1.trans s2).trans s3)) e4;obtain⟨r5,s5,h⟩:=px h;cases h;refine⟨Px hw p1 p2,_,(((s1.trans s2).trans s3).trans s4).trans s5,?_⟩;rw[C6 hw t1 p1 b1];unfold Vabldl.call;rw[List.length_append,List.length_cons,List.length_append];have wl:=Ha wd hw;have gs:=IS (tx.map Vabldl.quote++qs.map Vabldl.plain++jt n);rw[List.map_append,List.map_append,List.sum_append,List.sum_append] at gs;have q1:=E_ tx t2;have q2:=RD n;have q3:((qs.map Vabldl.plain).map fun p=>p.length+2).sum=wm qs:=by unfold wm;rw[List.map_map];rfl
 rw[q3] at gs;have:([41]:List Nat).length=1:=rfl;dsimp only [VT] at*;omega
theorem IB{sub:Sub}(S:pJ sub):pJ (Vabldl.term sub):=by
 intro vs ts q r g h;unfold Vabldl.term at h
 split at h
 ·rename_i hk
  obtain⟨s1,m1⟩:=gU (ts:=ts) (by rw[hk];decide);cases h;have:=(g _ m1).Mb hk;refine⟨trivial,1,s1,?_⟩;show(34::((Vabldl.next ts).text++[34])).length+2<=50;rw[List.length_cons,List.length_append];show(Vabldl.next ts).text.length+1+1+2<=50;omega
 ·split at h
  ·rename_i hk
   obtain⟨s1,m1⟩:=gU (ts:=ts) (by rw[hk];decide)
   split at h
   ·rename_i hc
    cases h;have:=(g _ m1).var hk;refine⟨List.contains_iff_mem.mp hc,1,s1,?_⟩;show(36::(Vabldl.next ts).text).length+2<=50;rw[List.length_cons];omega
   ·cases h
  ·split at h
   ·rename_i hs
    obtain⟨s1,m1⟩:=gU (ts:=ts) (by rw[(gP.mp hs).1];decide);obtain⟨x,r1,e1,h⟩:=gg h;obtain⟨a1,c,a2,a3⟩:=S vs _ x r1 (g.gJ s1) e1;obtain⟨r2,s2,h⟩:=px h;cases h;exact⟨a1,_,(s1.trans a2).trans s2,by omega⟩
   ·split at h
    ·rename_i hk
     obtain⟨s1,m1⟩:=gU (ts:=ts) (by rw[hk];decide)
     by_cases ha:Vabldl.isWord "all" ts=true
     ·rw[DH ha] at h;cases h;exact⟨trivial,1,s1,by decide⟩
     ·by_cases hw: ∃wd∈cD,(Vabldl.next ts).text=Vabldl.str wd
      ·obtain⟨wd,hw,ht⟩:=hw;rw[Dk hw hk ht] at h;obtain⟨a1,c,a2,a3⟩:=Rx S hw (g.gJ s1) h;exact⟨a1,_,s1.trans a2,by omega⟩
      ·rw[CW (fun e=>ha (jd.mpr ⟨hk,e⟩)) (fun wd c8 e=>hw ⟨wd,c8,e⟩)] at h;cases h
    ·cases h
theorem HC{sub:Sub}(S:pJ sub)(vs:List Text): ∀(n:Nat)(a:Query)(ts:List Tok)(q:Query)(r:List Tok),GT ts->Vabldl.more sub vs n a ts= .ok (q,r)->b7 vs a->b7 vs q/\ ∃c,dW ts r c/\(Vabldl.plain q).length<=(Vabldl.plain a).length+50*c
 |0,a,ts,q,r,g,h,sa=>by cases h
 |n+1,a,ts,q,r,g,h,sa=>by
  unfold Vabldl.more at h
  split at h
  ·cases h;exact⟨sa,0,dW.refl _,Nat.le_refl _⟩
  ·rename_i o ho
   have hk:(Vabldl.next ts).kind≠0:=by
    unfold Vabldl.opOf at ho
    split at ho
    ·rename_i hs;rw[(gP.mp hs).1];decide
    ·split at ho
     ·rename_i hs;rw[(gP.mp hs).1];decide
     ·split at ho
      ·rename_i hs;rw[(gP.mp hs).1];decide
      ·cases ho
   obtain⟨s1,_⟩:=gU hk;obtain⟨b,r1,e1,h⟩:=gg h;obtain⟨b1,c1,b2,b3⟩:=IB S vs _ b r1 (g.gJ s1) e1;obtain⟨a1,c2,a2,a3⟩:=HC S vs n (.op o a b) r1 q r (g.gJ (s1.trans b2)) h ⟨sa,b1⟩;refine⟨a1,_,(s1.trans b2).trans a2,?_⟩;rw[Gf,List.length_append,List.length_append,za] at a3;have p1:=(uO (Vabldl.isLet a) (Vabldl.plain a)).2;have p2:=(uO (Vabldl.isLet b || Vabldl.isOp b) (Vabldl.plain b)).2;omega
theorem Hm: ∀n:Nat,pJ (Vabldl.expr n)
 |0=>fun vs ts q r g h=>by cases h
 |n+1=>fun vs ts q r g h=>by
  have S:=Hm n;have h:(if Vabldl.isWord "let" ts=true then Vabldl.letExpr (Vabldl.expr n) vs ts else Vabldl.sum (Vabldl.expr n) vs ts)= .ok (q,r):=h
  split at h
  ·rename_i hw
   obtain⟨s1,_⟩:=gU (ts:=ts) (by rw[(jd.mp hw).1];decide);unfold Vabldl.letExpr at h
   split at h
   ·rename_i hk
    obtain⟨s2,m2⟩:=gU (ts:=ts.drop 1) (by rw[hk];decide);rw[List.drop_drop] at s2;have ui:=s1.trans s2;obtain⟨r1,s3,h⟩:=px h;obtain⟨x,r2,e2,h⟩:=gg h;obtain⟨a1,c1,a2,a3⟩:=S vs _ x r2 (g.gJ (ui.trans s3)) e2;obtain⟨r3,s4,h⟩:=Rr h;obtain⟨y,r4,e4,h⟩:=gg h;have s5:=(((ui.trans s3).trans a2).trans s4);obtain⟨b1,c2,b2,b3⟩:=S _ _ y r4 (g.gJ s5) e4;cases h;have hv:=(g.gJ s1 _ m2).var hk;refine⟨⟨a1,b1⟩,_,s5.trans b2,?_⟩;show(Vabldl.str "let $"++((Vabldl.next (ts.drop 1)).text++(Vabldl.str " = "++(Vabldl.plain x++(Vabldl.str " in "++Vabldl.plain y))))).length+2<=_;rw[List.length_append,List.length_append,List.length_append,List.length_append,List.length_append,show(Vabldl.str "let $").length=5 by decide,show(Vabldl.str " = ").length=3 by decide,show(Vabldl.str " in ").length=4 by decide];omega
   ·cases h
  ·unfold Vabldl.sum at h;obtain⟨a,r1,e1,h⟩:=gg h;obtain⟨a1,c1,a2,a3⟩:=IB S vs ts a r1 g e1;obtain⟨b1,c2,b2,b3⟩:=HC S vs _ a r1 q r (g.gJ a2) h a1;exact⟨b1,_,a2.trans b2,by omega⟩
theorem RA(x:Text)(ts:List Tok)(h:Vabldl.cut x= .ok ts):ts.length<=x.length+1:=by
 have eJ: ∀(k:Nat)(p:Nat)(l:List Tok),x.length-p<=k->p<=x.length->rest x.length (x.drop p)= .ok l->l.length<=x.length-p+1:=by
  intro k
  induction k with
  |zero=>
   intro p l hk hp hl;rw[List.drop_eq_nil_of_le (by omega),yS] at hl;cases hl;show 1<=_;omega
  |succ k ih=>
   intro p l hk hp hl
   by_cases LM:p=x.length
   ·rw[List.drop_eq_nil_of_le (by omega),yS] at hl;cases hl;show 1<=_;omega
   ·have aW:p<x.length:=by omega
    obtain⟨c,hc⟩: ∃c,x[p]? =some c:=⟨_,List.getElem?_eq_getElem aW⟩
    by_cases hb:Vabldl.blank c=true
    ·rw[drop_cons hc,Ep hb] at hl;have:=ih (p+1) l (by omega) aW hl;omega
    ·have hb:Vabldl.blank c=false:=by cases h:Vabldl.blank c with |false=>rfl |true=>exact absurd h hb
     rw[Gi hc hb] at hl;cases ht:lI x p c with
     |none=>rw[ht] at hl;cases hl
     |some A6=>
      obtain⟨kk,ww,e⟩:=A6;rw[ht] at hl;obtain⟨l1,l2,_⟩:=G6 hc ht;obtain⟨l',e1,rfl⟩:=Jn hl;have:=ih e l' (by omega) l2 e1;rw[List.length_cons];omega
 rw[FV] at h;have:=eJ x.length 0 ts (by omega) (Nat.zero_le _) h;omega
theorem rV{x:Text}{q:Query}(h:Vabldl.read x= .ok q):b7 [] q/\(Vabldl.plain q).length<=50*(x.length+1)/\x.length<=1024:=by
 have hz: ¬1024<x.length:=fun hz=>by
  unfold Vabldl.read at h;rw[if_pos (show Vabldl.MOST<x.length from hz)] at h;cases h
 cases hc:Vabldl.cut x with
 |error e=>rw[Fb hz hc] at h;cases h
 |ok ts=>
  cases hg:lu ts with
  |error e=>rw[Gg hz hc hg] at h;cases h
  |ok y=>
   rw[Gh hz hc hg] at h;cases h;unfold lu at hg;obtain⟨a,r,e,hg⟩:=gg hg;have gt:GT ts:=xZ x.length (x.length+1) x ts hc;obtain⟨s1,c,s2,s3⟩:=Hm 20 [] ts a r gt e
   split at hg
   ·cases hg;have:=s2.2;have l:=RA x ts hc;exact⟨s1,by show(Vabldl.plain a).length<=_;omega,by omega⟩
   ·cases hg
end Bp
namespace Bp
open PySem PySem.Spec PyProof.Rows L2 Bq
variable{K:FG}{mg:Str->Option Value}{w:World}{P:Program}{base:Heap}{cs:Addr}
theorem sO{X:Cx}{K:FG}{cs:Addr}{e:Expr}{f:Str}{pos:Pos}{ta:TE}(h:X.K=K)(he:PE X e ta)(hb:attributeBase e f X.env (eval e X.env)=eval e X.env):PE X (.Attribute e f pos) (Mg K cs ta f):=by subst h;exact UR he hb
structure FC(t:Tx K mg w)(C:Addr):Prop where
 cl:fB K C
 num:cV K C "number"
 pos:cV K C "position"
 sf:subIn K C t.eg.C=true
 sr:subIn K C t.cG.C=true
 ne:C≠t.aO.C
theorem fc(t:Tx K mg w): ∀k,FC t (lK t k)
 |0=>⟨t.fK.cl,t.fK.num,t.fK.pos,t.xr,t.xo,t.xD⟩
 |1=>⟨t.iB.cl,t.iB.num,t.iB.pos,t.Cu,t.B3,t.EG⟩
 |2=>⟨t.dq.cl,t.dq.num,t.dq.pos,t.Cd,t.BP,t.D_⟩
 |3=>⟨t.eN.cl,t.eN.num,t.eN.pos,t.B4,t.BH,t.DG⟩
 |4=>⟨t.iA.cl,t.iA.num,t.iA.pos,t.Ct,t.B2,t.EF⟩
 |_+5=>⟨t.fK.cl,t.fK.num,t.fK.pos,t.xr,t.xo,t.xD⟩
abbrev zf(t:Tx K mg w)(H:Hp)(e:Vabldl.Fault)(E:XK):Prop:=Throws H (lK t e.kind) (dS (-10-(e.kind:Int)) (e.place:Int)) E
inductive Ik(t:Tx K mg w)(vs:List V)(H:Hp)(Q:VK)(E:XK):Prop
 |mk(ga dg la lb lc:Addr)(nv:List V)(ms:List Addr)(g:VG)(needs:List Nat)(p:Addr)(x:VT):vs=[.ref ga,.ref p]->bx t H ga dg la lb lc nv ms g needs->H p=some (.tup (nums x))->(match Vabldl.read x with
 | .error e=>zf t H e E
 | .ok q=>match Vabldl.mean g [] q with
  |none=>Throws H t.dG.C (b8 (-16)) E
  |some l=>eD H (nums (0::l)) Q)->Ik t vs H Q E
inductive Ip(t:Tx K mg w)(vs:List V)(H:Hp)(Q:VK)(E:XK):Prop
 |mk(p:Addr)(x:VT):vs=[.ref p]->H p=some (.tup (nums x))->(match Vabldl.read x with
 | .error e=>eD H (nums [e.kind,e.place]) Q
 | .ok _=>eD H (nums [0,0]) Q)->Ip t vs H Q E
inductive GO(t:Tx K mg w)(vs:List V)(H:Hp)(Q:VK)(E:XK):Prop
 |mk(p:Addr)(x:VT):vs=[.ref p]->H p=some (.tup (nums x))->(match Vabldl.read x with
 | .error e=>zf t H e E
 | .ok q=>eD H (nums (0::Vabldl.plain q)) Q)->GO t vs H Q E
inductive GR(t:Tx K mg w)(vs:List V)(H:Hp)(Q:VK)(E:XK):Prop
 |mk(p:Addr)(x:VT):vs=[.ref p]->H p=some (.tup (nums x))->(match Vabldl.read x with
 | .error e=>Throws H t.aO.C (b8 (-10-(e.kind:Int)-10)) E
 | .ok q=> ∀H' v,ai H H'->aV t (bT H) H' 40 v q->Q v H')->GR t vs H Q E
inductive FA(t:Tx K mg w)(vs:List V)(H:Hp)(Q:VK)(E:XK):Prop
 |mk(ga dg la lb lc:Addr)(nv:List V)(ms:List Addr)(g:VG)(needs:List Nat)(v:V)(q:Qy)(B:Addr->Prop):vs=[.ref ga,v]->bx t H ga dg la lb lc nv ms g needs->aV t B H 40 v q->b7 [] q->(∀m,Means g [] q (some m)-> ∀H',ai H H'->Q (.int (m:Nat)) H')->(Means g [] q none->Throws H t.aO.C (b8 (-26)) E)->FA t vs H Q E
def lg(t:Tx K mg w)(H:Hp)(E:XK)(g:VG)(xa xb:VT)(S:Vabldl.Nodes->Vabldl.Nodes->Prop):Prop:=
 match Vabldl.read xa with
 | .error e=>zf t H e E
 | .ok x=>match Vabldl.read xb with
  | .error e=>Throws H t.aO.C (b8 (-10-(e.kind:Int)-10)) E
  | .ok y=>match Vabldl.mean g [] x with
   |none=>Throws H t.dG.C (b8 (-16)) E
   |some p=>match Vabldl.mean g [] y with
    |none=>Throws H t.aO.C (b8 (-26)) E
    |some q=>S p q
inductive vR(t:Tx K mg w)(S:Hp->VK->VG->Vabldl.Nodes->Vabldl.Nodes->Prop)(vs:List V)(H:Hp)(Q:VK)(E:XK):Prop
 |mk(ga dg la lb lc:Addr)(nv:List V)(ms:List Addr)(g:VG)(needs:List Nat)(pa pb:Addr)(xa xb:VT):vs=[.ref ga,.ref pa,.ref pb]->bx t H ga dg la lb lc nv ms g needs->H pa=some (.tup (nums xa))->H pb=some (.tup (nums xb))->lg t H E g xa xb (S H Q g)->vR t S vs H Q E
def JJ(H:Hp)(Q:VK)(g:VG)(p q:Vabldl.Nodes):Prop:= ∀m1 m2 H' T,m1<2^g.length->m2<2^g.length->p=bits g.length m1->q=bits g.length m2->ai H H'->H' T=some (.tup [.int (m1:Nat),.int (m2:Nat)])->Q (.ref T) H'
def Ul(H:Hp)(Q:VK)(g:VG)(p q:Vabldl.Nodes):Prop:=eD H (nums (0::Vabldl.chosen g p q)) Q
def SQ(H:Hp)(Q:VK)(g:VG)(p q:Vabldl.Nodes):Prop:=eD H (nums [if p==q then 1 else 0]) Q
theorem x6{g:VG}{q:Qy}(A:Vabldl.Nodes->Prop)(B:Prop)(h:match Vabldl.mean g [] q with |none=>B |some l=>A l):(∀m,Means g [] q (some m)->A (bits g.length m))/\(Means g [] q none->B):=by
 refine⟨fun m hm=>?_,fun hn=>?_⟩
 ·rw[hm.2] at h;exact h
 ·rw[show Vabldl.mean g [] q=none from hn] at h;exact h
theorem zh{H:Hp}{p:Addr}(h:H p=some (.dK [])):jr H p [] [] 40:=⟨h,List.nodup_nil,by decide,fun v=>rfl⟩
theorem FJ{x:Str}{k:Nat}{F:List Int->List (Str×V)}{H1:Hp}{a hx C' d' cs:Addr}{E E1:XK}(c:XF K mg x)(is:List Int)(hk:is.length=k)(ha:H1 a=none)(hh:H1 hx=some (XH cs hx C' d'))(bo:C'≠cs)
  (h: ∀(H':Hp)(d:Addr),ai H1 H'->H1 d=none->H' d=some (XD d (F is))->E (.ref c.C) (some d) H'):
  eL K k F (.ref a::is.map V.int) (upd H1 a (XO a c.C none)) (fun v H2=>v= .aN/\ ∃d C' d',H2 a=some (XO a c.C (some d))/\H2 hx=some (XH cs hx C' d')/\C'≠cs/\E (.ref c.C) (some d) (L2.cut H2 a)) E1:=by
 refine⟨a,c.C,is,rfl,hk,au,c.cl,c.num,c.pos,fun H' d hd gC h1 h2 h3=>⟨rfl,d,C',d',h1,?_,bo,h _ d (fun b o e=>?_) ?_ ?_⟩⟩
 ·have nb:hx≠a:=aR hh ha;exact h3 hx _ (by rw[aj nb];exact hh) nb
 ·have nb:b≠a:=aR e ha;rw[iK nb];exact h3 b o (by rw[aj nb];exact e) nb
 ·rw[aj gC] at hd;exact hd
 ·rw[iK gC];exact h2
theorem QU(t:Tx K mg w):aB P w K mg base (aC P w cs) 113 t.query.f t.query.fd ["graph","text"] (Ik t):=by
 refine t.query.F.aJ true Rg (fun vs H Q E h=>?_) (fun ay A outer s H vs Q E hr h=>?_)
 ·obtain⟨ga,dg,la,lb,lc,nv,ms,g,needs,p,x,rfl,_⟩:=h;rfl
 ·obtain⟨ga,dg,la,lb,lc,nv,ms,g,needs,p,x,rfl,G,ep,o⟩:=h;have tX:az (kM 40) _:=hr.mono (by decide);have bj:az 5 _:=hr.mono (by decide);refine⟨_,ao (aD (a0 iM (dw (ae aM ag)) (aK t.members (oM (cs:=cs) t) bj (ax (cs:=cs)) (ae (aK t.gc (uN t 40) tX aE.passes (ae (pv 0)<|ae (aK t.jM (qK (cs:=cs) t) hr aE.passes (ae (pv 1) ag))<|ae yQ ag)) ag)))),?_⟩;refine⟨(by show 1<=sizeLine;decide),fun l0 tN=>?_⟩;have s1:ai H (upd H l0 (.lst [.int 0])):=ai.new tN;refine⟨_,rfl,_,rfl,p,x,rfl,s1 _ _ ep,?_⟩;cases c6:Vabldl.read x with
  |error e=>rw[c6] at o;exact Throws.same o s1
  |ok q=>
   rw[c6] at o;obtain⟨oS,oN⟩:=x6 _ _ o;intro H2 v s2 hq;intro gv tK;have s3:ai H2 (upd H2 gv (.dK [])):=ai.new tK;have i8:=(s1.trans s2).trans s3;refine⟨ga,dg,la,lb,lc,nv,ms,g,needs,v,gv,[],[],[],q,_,rfl,G.same i8,hq.same s3,zh au,gk.nil _,fun v m h=>(by cases h),(rV c6).1,fun m hm H4 s4=>?_,fun hn=>(oN hn).same i8⟩;refine⟨m,rfl,mZ hm.1 G.le,fun H5 l5 s5 tO e5=>?_⟩;rw[mB hm.1 G.le] at e5;have Bi:=((s2.trans s3).trans s4).trans s5;refine⟨l0,l5,_,_,rfl,rfl,Bi _ _ au,e5,?_,fun l6 tP=>?_⟩
   ·rw[a8];show 1+(bits g.length m).length<=_;have h1:(bits g.length m).length<=64:=Nat.le_trans (jl _ m) G.le;exact Nat.le_trans (show 1+(bits g.length m).length<=65 by omega) (by decide)
   exact oS m hm _ l6 ((s1.trans Bi).trans (ai.new tP)) ((s1.trans Bi).free tP) au
theorem PL(t:Tx K mg w):aB P w K mg base (aC P w cs) 129 t.plain.f t.plain.fd ["text"] (GO t):=by
 refine t.plain.F.aJ true Rf (fun vs H Q E h=>?_) (fun ay A outer s H vs Q E hr h=>?_)
 ·obtain⟨p,x,rfl,_⟩:=h;rfl
 ·obtain⟨p,x,rfl,ep,o⟩:=h;have AV:az 112 _:=hr.mono (by decide);refine⟨_,ao (aD (a0 iM (dw (ae aM ag)) (aK t.iC (C4 t 40) hr (ax (cs:=cs)) (ae (aK t.jM (qK (cs:=cs) t) AV aE.passes (ae (pv 0) ag)) ag)))),?_⟩;have hb:=big;refine⟨(by show 1<=sizeLine;decide),fun l0 tN=>?_⟩;have s1:ai H (upd H l0 (.lst [.int 0])):=ai.new tN;refine⟨_,rfl,p,x,rfl,s1 _ _ ep,?_⟩;cases c6:Vabldl.read x with
  |error e=>rw[c6] at o;exact Throws.same o s1
  |ok q=>
   rw[c6] at o;obtain⟨_,hl,hx⟩:=rV c6;intro H2 v s2 hq;refine⟨v,q,_,rfl,hq,by omega,fun H3 l3 s3 wV e3=>?_⟩;have Bh:=s2.trans s3;refine⟨l0,l3,_,_,rfl,rfl,Bh _ _ au,e3,?_,fun l4 fi=>?_⟩
   ·rw[a8];show 1+_<=_;omega
   exact o _ l4 ((s1.trans Bh).trans (ai.new fi)) ((s1.trans Bh).free fi) au
theorem QW(t:Tx K mg w):aB P w K mg base (aC P w cs) 113 t.where_.f t.where_.fd ["text"] (Ip t):=by
 refine t.where_.F.aJ true Gy (fun vs H Q E h=>?_) (fun ay A outer s H vs Q E hr h=>?_)
 ·obtain⟨p,x,rfl,_⟩:=h;rfl
 ·obtain⟨p,x,rfl,ep,o⟩:=h;obtain⟨tb,eb⟩:=t.CY;refine⟨_,ak (vN (i:=1) (cs:=cs) aE ⟨rfl,rfl⟩ (fun a=>PassesOwnAt.leaving) Gy.nd rfl rfl rfl t.eg.m t.eg.cl
    (fun pn nR E1 T1 P1=>ao (bA (aK t.jM (qK (cs:=cs) t) hr T1.passes (ae (pv 0) ag))))
    (fun a qx T2=>ao (aD (dw (ae (a0 r9 (fe g8 (sO (K:=K) (cs:=cs) rfl (pv 1) rfl)) (bw (v:= .int 10) rfl eb ⟨_,rfl⟩))<|ae (sO (K:=K) (cs:=cs) rfl (pv 1) rfl) ag)))))<|
   ao (aD (dw (ae aM<|ae aM ag))),?_⟩
  refine⟨_,rfl,p,x,rfl,ep,?_⟩;cases c6:Vabldl.read x with
  |error e=>
   rw[c6] at o;intro H1 d s1 hd ed;have f:=fc t e.kind;refine⟨_,d,rfl,rfl,f.cl,f.sf,fun a ha=>?_⟩;have lT:(upd H1 a (XH cs a (lK t e.kind) d)) d=some (XD d (dS (-10-(e.kind:Int)) (e.place:Int))):=by rw[aj (aR ed ha)];exact ed
   refine⟨_,rfl,a,_,d,_,_,rfl,au,lT,f.cl,f.num,rfl,_,rfl,_,_,rfl,rfl,_,rfl,a,_,d,_,_,rfl,au,lT,f.cl,f.pos,rfl,(by show 2<=sizeLine;decide),fun l hl=>?_⟩;refine o _ l ((s1.trans (ai.new ha)).trans (ai.new hl)) ((s1.trans (ai.new ha)).free hl) ?_;rw[au];show some (HO.lst [V.int (-(-10-(e.kind:Int))-10),V.int (e.place:Int)])=some (HO.lst [V.int (e.kind:Int),V.int (e.place:Int)]);rw[show(-(-10-(e.kind:Int))-10)=(e.kind:Int) by omega]
  |ok q=>
   rw[c6] at o;intro H1 v s1 hq;refine⟨(by show 2<=sizeLine;decide),fun l hl=>?_⟩;exact o _ l (s1.trans (ai.new hl)) (s1.free hl) au
theorem Ni(t:Tx K mg w):aB P w K mg base (aC P w t.aO.C) 113 t.qT.f t.qT.fd ["text"] (GR t):=by
 refine t.qT.F.aJ true CU (fun vs H Q E h=>?_) (fun ay A outer s H vs Q E hr h=>?_)
 ·obtain⟨p,x,rfl,_⟩:=h;rfl
 ·obtain⟨p,x,rfl,ep,o⟩:=h;have fj:az 3 _:=hr.mono (by decide);refine⟨_,ao (vN (i:=1) (cs:=t.aO.C) (tb:=fun E1=>wo (mY (zb t) [] E1 (iO (dU 0) iT))) aE ⟨rfl,rfl⟩ (fun a=>PassesOwnAt.leaving) CU.nd rfl rfl rfl t.eg.m t.eg.cl
    (fun pn nR E1 T1 P1=>ao (aD (aK t.jM (qK (cs:=t.aO.C) t) hr T1.passes (ae (pv 0) ag))))
    (fun a qx T2=>ao (E9 T2 rfl rfl (t.kI.d3 rfl) (Ce (cs:=t.aO.C) t) (fj.mark (by decide) _) rfl t.aO.m t.kI.b (ax (cs:=t.aO.C)) (ae (sO (K:=K) (cs:=t.aO.C) rfl (pv 1) rfl) ag)))),?_⟩
  refine⟨_,rfl,p,x,rfl,ep,?_⟩;cases c6:Vabldl.read x with
  |error e=>
   rw[c6] at o;intro H1 d s1 hd ed;have f:=fc t e.kind;refine⟨_,d,rfl,rfl,f.cl,f.sf,fun a ha=>?_⟩;have lT:(upd H1 a (XH t.aO.C a (lK t e.kind) d)) d=some (XD d (dS (-10-(e.kind:Int)) (e.place:Int))):=by rw[aj (aR ed ha)];exact ed
   refine⟨_,rfl,a,_,d,_,_,rfl,au,lT,f.cl,f.num,rfl,(by show 1<=sizeLine;decide),fun b hb=>?_⟩;exact FJ t.aO [-10-(e.kind:Int)] rfl hb au f.ne (Throws.same o (s1.trans (ai.new ha)))
  |ok q=>rw[c6] at o;exact o
theorem MJ(t:Tx K mg w):aB P w K mg base (aC P w t.aO.C) 92 t.qH.f t.qH.fd ["graph","tree"] (FA t):=by
 refine t.qH.F.aJ true Cc (fun vs H Q E h=>?_) (fun ay A outer s H vs Q E hr h=>?_)
 ·obtain⟨ga,dg,la,lb,lc,nv,ms,g,needs,v,q,B,rfl,_⟩:=h;rfl
 ·obtain⟨ga,dg,la,lb,lc,nv,ms,g,needs,v,q,B,rfl,G,hq,fF,oS,oN⟩:=h;have fj:az 3 _:=hr.mono (by decide);refine⟨_,ao (vN (i:=2) (cs:=t.aO.C) (tb:=fun E1=>wo (mY (yz t 40) [] E1 (iO (dU 0) (iO (dU 1) (iO JE iT))))) aE ⟨rfl,rfl⟩ (fun a=>PassesOwnAt.leaving) Cc.nd rfl rfl rfl t.dG.m t.dG.cl
    (fun pn nR E1 T1 P1=>ao (aD (aK t.gc (uN (cs:=t.aO.C) t 40) hr T1.passes (ae (pv 0)<|ae (pv 1)<|ae yQ ag))))
    (fun a qx T2=>ao (E9 T2 rfl rfl (t.kI.d3 rfl) (Ce (cs:=t.aO.C) t) (fj.mark (by decide) _) rfl t.aO.m t.kI.b (ax (cs:=t.aO.C)) (ae (sO (K:=K) (cs:=t.aO.C) rfl (pv 2) rfl) ag)))),?_⟩
  refine⟨_,rfl,_,rfl,fun gv tK=>?_⟩;have s1:ai H (upd H gv (.dK [])):=ai.new tK;refine⟨ga,dg,la,lb,lc,nv,ms,g,needs,v,gv,[],[],[],q,B,rfl,G.same s1,hq.same s1,zh au,gk.nil _,fun v m h=>(by cases h),fF,fun m hm H2 s2=>oS m hm H2 (s1.trans s2),fun hn=>?_⟩;intro H2 d s2 hd ed;refine⟨_,d,rfl,rfl,t.dG.cl,t.Bs,fun a ha=>?_⟩;have lT:(upd H2 a (XH t.aO.C a t.dG.C d)) d=some (XD d (b8 (-16))):=by rw[aj (aR ed ha)];exact ed
  refine⟨_,rfl,a,_,d,_,_,rfl,au,lT,t.dG.cl,t.dG.num,rfl,(by show 1<=sizeLine;decide),fun b hb=>?_⟩;exact FJ t.aO [-16] rfl hb au t.CH (Throws.same (oN hn) ((s1.trans s2).trans (ai.new ha)))
theorem HF(t:Tx K mg w):aB P w K mg base (aC P w t.aO.C) 114 t.oA.f t.oA.fd ["graph","a","b"] (vR t JJ):=by
 refine t.oA.F.aJ true xy (fun vs H Q E h=>?_) (fun ay A outer s H vs Q E hr h=>?_)
 ·obtain⟨ga,dg,la,lb,lc,nv,ms,g,needs,pa,pb,xa,xb,rfl,_⟩:=h;rfl
 ·obtain⟨ga,dg,la,lb,lc,nv,ms,g,needs,pa,pb,xa,xb,rfl,G,ea,eb,o⟩:=h;have AV:az 112 _:=hr.mono (by decide);have tX:az (kM 40) _:=hr.mono (by decide);have Xq:az 92 _:=hr.mono (by decide);refine⟨_,ak (aT 3 xy.nd (aK t.jM (qK (cs:=t.aO.C) t) AV aE.passes (ae (pv 1) ag)))<|
   ak (aT 4 xy.nd (aK t.qT (Ni t) hr aE.passes (ae (pv 2) ag)))<|
   ao (aD (sh (ae (aK t.gc (uN (cs:=t.aO.C) t 40) tX aE.passes (ae (pv 0)<|ae (pv 3)<|ae yQ ag))<|ae (aK t.qH (MJ t) Xq aE.passes (ae (pv 0)<|ae (pv 4) ag)) ag))),?_⟩
  unfold lg at o;refine⟨_,rfl,pa,xa,rfl,ea,?_⟩;cases ha:Vabldl.read xa with
  |error e=>rw[ha] at o;exact o
  |ok x=>
   rw[ha] at o;intro H1 v1 s1 tV;refine⟨_,rfl,pb,xb,rfl,s1 _ _ eb,?_⟩;cases hb:Vabldl.read xb with
   |error e=>rw[hb] at o;exact Throws.same o s1
   |ok y=>
    rw[hb] at o;intro H2 v2 s2 kx;have cR:=s1.trans s2;obtain⟨o1,n1⟩:=x6 (fun p=>match Vabldl.mean g [] y with |none=>Throws H t.aO.C (b8 (-26)) E |some q=>JJ H Q g p q) _ o;refine⟨_,rfl,_,rfl,fun gv tK=>?_⟩;have s3:ai H2 (upd H2 gv (.dK [])):=ai.new tK;have i8:=cR.trans s3;refine⟨ga,dg,la,lb,lc,nv,ms,g,needs,v1,gv,[],[],[],x,_,rfl,G.same i8,(tV.same s2).same s3,zh au,gk.nil _,fun v m h=>(by cases h),(rV ha).1,fun m1 AO H4 s4=>?_,fun hn=>(n1 hn).same i8⟩;obtain⟨o2,n2⟩:=x6 _ _ (o1 m1 AO);have Bg:=i8.trans s4;refine⟨_,rfl,_,rfl,ga,dg,la,lb,lc,nv,ms,g,needs,v2,y,_,rfl,G.same Bg,(kx.same s3).same s4,(rV hb).1,fun m2 iY H5 s5=>?_,fun hn=>(n2 hn).same Bg⟩;refine⟨(by show 2<=sizeLine;decide),fun T hT=>?_⟩;exact o2 m2 iY m1 m2 _ T AO.1 iY.1 rfl rfl ((Bg.trans s5).trans (ai.new hT)) au
theorem lg.imp{t:Tx K mg w}{H:Hp}{E:XK}{g:VG}{xa xb:VT}{S S':Vabldl.Nodes->Vabldl.Nodes->Prop}(o:lg t H E g xa xb S)(h: ∀p q,S p q->S' p q):lg t H E g xa xb S':=by
 unfold lg at o ⊢;cases ha:Vabldl.read xa with
 |error e=>rw[ha] at o;exact o
 |ok x=>
  rw[ha] at o;cases hb:Vabldl.read xb with
  |error e=>rw[hb] at o;exact o
  |ok y=>
   rw[hb] at o;dsimp only at o ⊢;cases h1:Vabldl.mean g [] x with
   |none=>rw[h1] at o;exact o
   |some p=>
    rw[h1] at o;dsimp only at o ⊢;cases h2:Vabldl.mean g [] y with
    |none=>rw[h2] at o;exact o
    |some q=>rw[h2] at o;exact h p q o
theorem Sb(t:Tx K mg w):aB P w K mg base (aC P w t.aO.C) 115 t.path.f t.path.fd ["graph","a","b"] (vR t Ul):=by
 refine t.path.F.aJ true H_ (fun vs H Q E h=>?_) (fun ay A outer s H vs Q E hr h=>?_)
 ·obtain⟨ga,dg,la,lb,lc,nv,ms,g,needs,pa,pb,xa,xb,rfl,_⟩:=h;rfl
 ·obtain⟨ga,dg,la,lb,lc,nv,ms,g,needs,pa,pb,xa,xb,rfl,G,ea,eb,o⟩:=h;have qg:az 8 _:=hr.mono (by decide);refine⟨_,ak (aT 3 H_.nd (aK t.oA (HF t) hr aE.passes (ae (pv 0)<|ae (pv 1)<|ae (pv 2) ag)))<|
   ao (aD (a0 iM (dw (ae aM ag)) (aK t.mj (xC (cs:=t.aO.C) t) qg (ax (cs:=t.aO.C)) (ae (aQ (pv 0) rfl)<|ae (cf gY (pv 3) aM (fun _ _=>rfl))<|ae (cf gY (pv 3) aM (fun _ _=>rfl)) ag)))),?_⟩
  refine⟨_,rfl,_,rfl,_,rfl,ga,dg,la,lb,lc,nv,ms,g,needs,pa,pb,xa,xb,rfl,G,ea,eb,o.imp fun p q hS m1 m2 H1 T h1 h2 e1 e2 s1 eT=>?_⟩;subst e1 e2;refine⟨(by show 1<=sizeLine;decide),fun l0 tN=>?_⟩;have s2:ai H1 (upd H1 l0 (.lst [.int 0])):=ai.new tN;have cR:=s1.trans s2;have G2:=G.same cR;refine⟨_,rfl,ga,_,_,_,_,rfl,G2.obj,t.aX.cl,t.aX.nn,rfl,_,rfl,T,_,_,_,rfl,rfl,bW (s2 _ _ eT),at_of (j:=0) rfl rfl,_,rfl,T,_,_,_,rfl,rfl,bW (s2 _ _ eT),at_of (j:=1) rfl rfl,lc,needs,g,m1,m2,rfl,G2.needs,G.rel,h1,h2,fun H3 l s3 hl el=>?_⟩;refine⟨l0,l,_,_,rfl,rfl,s3 _ _ au,el,?_,fun l4 fi=>?_⟩
  ·rw[a8];show 1+_<=_;obtain⟨k,h0,hz⟩:=EX (needs:=needs) (s:=m1) h2;have:(Vabldl.chosen g (bits g.length m1) (bits g.length m2)).length<=65:=by
    by_cases hk:lay (flipped g.length needs) g.length m2 k=0
    ·rw[xJ (s:=m1) G.rel h2 (fun j hj=>(h0 j hj).2) hk];exact Nat.zero_le _
    ·have hn: ∀j,j<=k->lay (flipped g.length needs) g.length m2 j≠0:=fun j hj=>by
      rcases Nat.lt_or_eq_of_le hj with q |q
      ·exact(h0 j q).1
      ·rw[q];exact hk
     have hi:=yI (s:=m1) G.rel h2 h1 hn (fun j hj=>(h0 j hj).2) (hz.resolve_left hk);rw[xK (s:=m1) G.rel h2 h1 hn (fun j hj=>(h0 j hj).2) (hz.resolve_left hk),yt,yF];have:=G.le;omega
   exact Nat.le_trans (show 1+_<=66 by omega) (by decide)
  exact hS _ l4 ((cR.trans s3).trans (ai.new fi)) ((cR.trans s3).free fi) au
theorem QO(t:Tx K mg w):aB P w K mg base (aC P w t.aO.C) 115 t.alike.f t.alike.fd ["graph","a","b"] (vR t SQ):=by
 refine t.alike.F.aJ true Gx (fun vs H Q E h=>?_) (fun ay A outer s H vs Q E hr h=>?_)
 ·obtain⟨ga,dg,la,lb,lc,nv,ms,g,needs,pa,pb,xa,xb,rfl,_⟩:=h;rfl
 ·obtain⟨ga,dg,la,lb,lc,nv,ms,g,needs,pa,pb,xa,xb,rfl,G,ea,eb,o⟩:=h;refine⟨_,ak (aT 3 Gx.nd (aK t.oA (HF t) hr aE.passes (ae (pv 0)<|ae (pv 1)<|ae (pv 2) ag)))<|
   ao (aD (dw (ae (vm (bg dE (cf gY (pv 3) aM (fun _ _=>rfl)) (cf gY (pv 3) aM (fun _ _=>rfl)) (bc _)) aM aM) ag))),?_⟩
  refine⟨_,rfl,_,rfl,_,rfl,ga,dg,la,lb,lc,nv,ms,g,needs,pa,pb,xa,xb,rfl,G,ea,eb,o.imp fun p q hS m1 m2 H1 T h1 h2 e1 e2 s1 eT=>?_⟩;subst e1 e2;have fin: ∀b:Bool,decide (m1=m2)=b-> ∀l,H1 l=none->Q (.ref l) (upd H1 l (.lst [.int (if b then 1 else 0)])):=fun b hb l hl=>by
   refine hS _ l (s1.trans (ai.new hl)) (s1.free hl) ?_;rw[au];show some (HO.lst [V.int (if b=true then 1 else 0)])=some (HO.lst [V.int ((if(bits g.length m1==bits g.length m2)=true then 1 else 0:Nat):Int)]);have:(bits g.length m1==bits g.length m2)=b:=by
    rw[<-hb,Bool.eq_iff_iff,beq_iff_eq,decide_eq_true_eq];exact⟨yD h1 h2,fun h=>by rw[h]⟩
   rw[this];cases b<;>rfl
  refine⟨_,rfl,T,_,_,_,rfl,rfl,bW eT,at_of (j:=0) rfl rfl,_,rfl,T,_,_,_,rfl,rfl,bW eT,at_of (j:=1) rfl rfl,m1,m2,rfl,rfl,_,rfl,bS (fun z=>?_) fun z=>?_⟩
  ·exact⟨(by show 1<=sizeLine;decide),fun l hl=>fin true z l hl⟩
  ·exact⟨(by show 1<=sizeLine;decide),fun l hl=>fin false z l hl⟩
abbrev fw(l:List Int):List V:=l.map V.int
def nk(l:Addr)(j:Nat):List (Str×V):=[("numbers",.ref l),("place",.int (j:Int))]
theorem IM(l:Addr)(j k:Nat):bD "place" (.int (k:Int)) (nk l j)=nk l k:=by
 show(if("numbers":Str)="place" then _ else _)=_;rw[if_neg (by decide +kernel)];show _::(if("place":Str)="place" then _ else _)=_;rw[if_pos rfl];rfl
def Fz(K:FG)(H:Hp)(a:Addr)(xs:List V):Prop:=(∃o,H a=some (.dk o (.lst xs)))∨ ∀H':Hp,aA K H' a xs
theorem Fz.sq{K:FG}{H:Hp}{a:Addr}{xs:List V}(h:Fz K H a xs):aA K H a xs:=by
 rcases h with⟨o,h⟩ |h
 ·exact .inl (.inr ⟨o,h⟩)
 ·exact h H
def br(x:VT):List Int:=(x.length:Int)::x.map fun(c:Nat)=>(c:Int)
structure cg(t:Tx K mg w)(H:Hp)(fa df cl:Addr)(is:List Int)(j:Nat):Prop where
 obj:H fa=some (.ins t.bq.C df (nk cl j))
 lst:Fz K H cl (fw is)
 len:is.length<=16000
theorem cg.keep{t:Tx K mg w}{H H':Hp}{fa df cl:Addr}{is:List Int}{j j':Nat}(h:cg t H fa df cl is j)(k:aH fa H H')(o:H' fa=some (.ins t.bq.C df (nk cl j'))):cg t H' fa df cl is j':=by
 refine⟨o,?_,h.len⟩;rcases h.lst with⟨ob,e⟩ |e
 ·exact .inl ⟨ob,k _ _ e fun q=>by rw[q,h.obj] at e;cases e⟩
 ·exact .inr e
theorem cg.same{t:Tx K mg w}{H H':Hp}{fa df cl:Addr}{is:List Int}{j:Nat}(h:cg t H fa df cl is j)(s:ai H H'):cg t H' fa df cl is j:=h.keep (aH.of s) (s _ _ h.obj)
theorem bx.d8{t:Tx K mg w}{H H':Hp}{ga dg la lb lc:Addr}{nv:List V}{ms:List Addr}{g:VG}{needs:List Nat}{fa df cl:Addr}{j:Nat}(G:bx t H ga dg la lb lc nv ms g needs)(e:H fa=some (.ins t.bq.C df (nk cl j)))(k:aH fa H H'):bx t H' ga dg la lb lc nv ms g needs:=by
 have nl: ∀b o,H b=some o->(∀C dx fs,o≠ .ins C dx fs)->H' b=some o:=fun b o eb n=>k b o eb fun q=>by rw[q,e] at eb;cases eb;exact n _ _ _ rfl
 have n3: ∀b C dx fs,H b=some (.ins C dx fs)->fs.length=3->H' b=some (.ins C dx fs):=fun b C dx fs eb h3=>k b _ eb fun q=>by
  rw[q,e] at eb;have:=(HO.ins.inj (Option.some.inj eb)).2.2;rw[<-this] at h3;exact absurd h3 (by show ¬(2=3);decide)
 refine⟨n3 _ _ _ _ G.obj rfl,nl _ _ G.nodes (by intro C dx fs q;cases q),nl _ _ G.names (by intro C dx fs q;cases q),nl _ _ G.need (by intro C dx fs q;cases q),G.len,G.gr,fun i nd h=>?_,G.nd,G.jE,G.kz,G.rel,G.le,G.good⟩;obtain⟨v,m,e1,e2,x,dx,nm,kd,af,h1,h2,h3,h4,h5,h6,h7,h8⟩:=G.node i nd h;have ht: ∀b xs,H b=some (.tup xs)->H' b=some (.tup xs):=fun b xs eb=>nl _ _ eb (by intro C dx fs q;cases q);exact⟨v,m,e1,e2,x,dx,nm,kd,af,h1,n3 _ _ _ _ h2 rfl,h3.keep ht,h4.keep ht,nl _ _ h5 (by intro C dx fs q;cases q),Paired.c5 (fun a c g=>⟨g.1,g.2.keep ht⟩) h6,h7,h8⟩
inductive Il(t:Tx K mg w)(vs:List V)(H:Hp)(Q:VK)(E:XK):Prop
 |mk(fa df cl:Addr)(is:List Int)(j:Nat)(i:Int):vs=[.ref fa]->cg t H fa df cl is j->is[j]? =some i->(∀H',aH fa H H'->cg t H' fa df cl is (j+1)->Q (.int i) H')->Il t vs H Q E
inductive Im(t:Tx K mg w)(vs:List V)(H:Hp)(Q:VK)(E:XK):Prop
 |mk(fa df cl:Addr)(is:List Int)(j:Nat)(x:VT)(r:List Int):vs=[.ref fa]->cg t H fa df cl is j->is.drop j=br x++r->(∀H' p,aH fa H H'->cg t H' fa df cl is (j+(br x).length)->H' p=some (.tup (nums x))->Q (.ref p) H')->Im t vs H Q E
theorem Gk(x:VT):(br x).length=x.length+1:=by unfold br;rw[List.length_cons,List.length_map]
theorem Rq(x:VT):fw (x.map fun(c:Nat)=>(c:Int))=nums x:=List.map_map ..
theorem jP(t:Tx K mg w):aB P w K mg base (aC P w cs) 5 t.dC.f t.dC.fd ["self"] (Il t):=by
 refine t.dC.F.aJ true BM (fun vs H Q E h=>?_) (fun ay A outer s H vs Q E hr h=>?_)
 ·obtain⟨fa,df,cl,is,j,i,rfl,_⟩:=h;rfl
 ·obtain⟨fa,df,cl,is,j,i,rfl,F,hi,k⟩:=h;refine⟨_,ak (aT 1 BM.nd (cf d5 (aQ (pv 0) rfl) (aQ (pv 0) rfl) (fun _ _=>rfl)))<|
   ak (u7 (pv 0) aM ll)<|ao (aD (pv 1)),?_⟩
  refine⟨_,rfl,fa,_,_,_,_,rfl,F.obj,t.bq.cl,t.bq.nn,rfl,_,rfl,fa,_,_,_,_,rfl,F.obj,t.bq.cl,t.bq.nn,rfl,cl,_,_,_,rfl,rfl,F.lst.sq,at_of (j:=j) rfl (show(fw is)[j]? =some (.int i) by rw[List.getElem?_map,hi];rfl),?_⟩;refine⟨_,rfl,fa,_,_,_,_,rfl,F.obj,t.bq.cl,t.bq.nn,rfl,j,1,rfl,rfl,df,_,F.obj,(by show 2<1000;decide),?_⟩;rw[IM];have kp:aH fa H (upd H fa (.ins t.bq.C df (nk cl (j+1)))):=fun b o e n=>by rw[aj n];exact e
  exact⟨_,rfl,k _ kp (F.keep kp au)⟩
theorem iF(t:Tx K mg w):aB P w K mg base (aC P w cs) 6 t.cS.f t.cS.fd ["self"] (Im t):=by
 refine t.cS.F.aJ true xw (fun vs H Q E h=>?_) (fun ay A outer s H vs Q E hr h=>?_)
 ·obtain⟨fa,df,cl,is,j,x,r,rfl,_⟩:=h;rfl
 ·obtain⟨fa,df,cl,is,j,x,r,rfl,F,hd,k⟩:=h;refine⟨_,ak (aT 1 xw.nd (cj (pv 0) t.bq.cl t.dC.me (jP (cs:=cs) t) hr t.dC.b .nil (ax (cs:=cs))))<|
   ak (aT 2 xw.nd (u6 Nn rfl t.HD rfl (ae (o_ Sz (aQ (pv 0) rfl) (gW (aQ (pv 0) rfl)) (gW (a0 iI (aQ (pv 0) rfl) (pv 1)))) ag)))<|
   ak (u7 (pv 0) (pv 1) ll)<|ao (aD (pv 2)),?_⟩
  have hj:is[j]? =some (x.length:Int):=by
   have:=congrArg (fun l=>l[0]?) hd;simp only [List.getElem?_drop,Nat.add_zero] at this;exact this
  have dY:is.drop (j+1)=(x.map fun(c:Nat)=>(c:Int))++r:=by
   rw[<-List.drop_drop,hd];rfl
  have bH:j+1+x.length<=is.length:=by
   have:=congrArg List.length dY;rw[List.length_drop,List.length_append,List.length_map] at this;have h1:=(List.getElem?_eq_some_iff.mp hj).1;omega
  refine⟨_,rfl,fa,_,_,rfl,F.obj,rfl,fa,df,cl,is,j,_,rfl,F,hj,fun H1 k1 F1=>?_⟩;refine⟨_,rfl,fa,_,_,_,_,rfl,F1.obj,t.bq.cl,t.bq.nn,rfl,_,rfl,fa,_,_,_,_,rfl,F1.obj,t.bq.cl,t.bq.nn,rfl,_,rfl,_,rfl,fa,_,_,_,_,rfl,F1.obj,t.bq.cl,t.bq.nn,rfl,_,rfl,j+1,x.length,rfl,rfl,_,rfl,cl,_,rfl,F1.lst.sq,fun p hp=>?_⟩;have cv:j6 (fw is) (some ((j+1:Nat):Int)) (some ((j+1+x.length:Nat):Int))=nums x:=by
   unfold j6;rw[HT.vC,HT.vC,List.length_map,Nat.min_eq_left (show j+1<=is.length by omega),Nat.min_eq_left bH,<-List.map_drop,<-List.map_take,dY,Nat.add_sub_cancel_left,List.take_append_of_le_length (by rw[List.length_map];exact Nat.le_refl _),List.take_of_length_le (by rw[List.length_map];exact Nat.le_refl _)];exact Rq x
  rw[cv];refine⟨p,_,rfl,.inl ⟨aA.of au,fun l hl=>?_⟩⟩;have s2:ai H1 (upd (upd H1 p (.lst (nums x))) l (.tup (nums x))):=(ai.new hp).trans (ai.new hl);have F2:=F1.same s2;have Xb:l≠fa:=fun q=>by rw[q,(ai.new hp) _ _ F1.obj] at hl;cases hl
  refine⟨_,rfl,fa,_,_,_,_,rfl,F2.obj,t.bq.cl,t.bq.nn,rfl,_,rfl,j+1,x.length,rfl,rfl,df,_,F2.obj,(by show 2<1000;decide),?_⟩;rw[IM];have kp:aH fa (upd (upd H1 p (.lst (nums x))) l (.tup (nums x))) (upd (upd (upd H1 p (.lst (nums x))) l (.tup (nums x))) fa (.ins t.bq.C df (nk cl (j+1+x.length)))):=fun b o e n=>by rw[aj n];exact e
  refine⟨_,rfl,k _ l ((k1.trans (aH.of s2)).trans kp) ?_ (by rw[aj Xb];exact au)⟩;rw[Gk,show j+(x.length+1)=j+1+x.length by omega];exact F2.keep kp au
structure RC(t:Tx K mg w)(C:Addr):Prop where
 cl:fB K C
 num:cV K C "number"
 sr:subIn K C t.cG.C=true
 ne:C≠t.aO.C∨C=t.aO.C
def eO(N:Addr->Prop)(fa:Addr)(H H':Hp):Prop:= ∀b o,H b=some o-> ¬N b->b≠fa->H' b=some o
structure dQ(t:Tx K mg w)(H:Hp)(R:List Int->Hp->Prop)(E:XK)(ga dg la lb lc:Addr)(nv:List V)(ms:List Addr)(g:VG)(fa df cl:Addr)(is:List Int)(j:Nat)(st:Vabldl.State×Vabldl.Answer):Prop where
 ok: ∀H' fH ef du,eO (Gm la lb lc ms) fa H H'->(∃l,ef=ms++l/\ ∀m∈l,H m=none)->bx t H' ga dg la lb lc fH ef st.1.graph du->cg t H' fa df cl is j->R (VabldlNeutral.encode st.2) H'
 bad: ∀H' du C d fs v,eO (Gm la lb lc ms) fa H H'->bx t H' ga dg la lb lc nv ms st.1.graph du->cg t H' fa df cl is j->RC t C->H d=none->H' d=some (XD d fs)->fs.lookup ("number":Str)=some (.int v)->VabldlNeutral.encode st.2=[v]->E (.ref C) (some d) H'
theorem eO.of{N:Addr->Prop}{fa:Addr}{H H1 H':Hp}(k:aH fa H H1)(s:ai H1 H'):eO N fa H H':=fun b o e _ n=>s _ _ (k b o e n)
theorem eO.ug{N:Addr->Prop}{fa:Addr}{H H1 H':Hp}(k:aH fa H H1)(s:mN N H1 H'):eO N fa H H':=fun b o e n1 n2=>s _ _ (k b o e n2) n1
theorem dQ.fu{t:Tx K mg w}{H H1:Hp}{R:List Int->Hp->Prop}{E:XK}{ga dg la lb lc:Addr}{nv:List V}{ms:List Addr}{g:VG}{needs:List Nat}{fa df cl:Addr}{is:List Int}{j:Nat}{st:Vabldl.State×Vabldl.Answer}(o:dQ t H R E ga dg la lb lc nv ms g fa df cl is j st)(k:aH fa H H1)(G:bx t H1 ga dg la lb lc nv ms g needs)(F:cg t H1 fa df cl is j)(bL:st.1.graph=g)
  {C:Addr} (rc:RC t C) {fs:List (Str×V)} {v:Int} (hf:fs.lookup ("number":Str)=some (.int v)) (he:VabldlNeutral.encode st.2=[v]):Throws H1 C fs E:=fun H' d s hd ed=>
 o.bad H' needs C d fs v (eO.of k s) (by rw[bL];exact G.same s) (F.same s) rc (k.free F.obj hd) ed hf he
theorem RC.of{t:Tx K mg w}{x:Str}(c:XF K mg x)(h:subIn K c.C t.cG.C=true):RC t c.C:=⟨c.cl,c.num,h,(Decidable.em (c.C=t.aO.C)).symm⟩
theorem RC.fc{t:Tx K mg w}{C:Addr}(f:FC t C):RC t C:=⟨f.cl,f.num,f.sr,.inl f.ne⟩
def mP:Vabldl.Call->Nat
 | .node _ _=>0 | .edge _ _=>1 | .cut _ _=>2 | .mark _ _ _=>3 | .query _=>4 | .where_ _=>5 | .plain _=>6 | .path _ _=>7 | .alike _ _=>8 | .far _ _=>9
def cH:Vabldl.Call->List Int
 | .node n x=>br n++br x | .edge a b=>[a,b] | .cut a b=>[a,b] | .mark a n x=>a::(br n++br x) | .query x=>br x | .where_ x=>br x | .plain x=>br x | .path a b=>br a++br b | .alike a b=>br a++br b | .far a b=>[a,b]
def g6:Vabldl.Call->Prop
 | .node n x=>n.length<=2000/\x.length<=2000 | .mark _ n x=>n.length<=2000/\x.length<=2000 |_=>True
def Uo:Vabldl.Call->Prop
 | .node _ _=>True | .edge _ _=>True | .cut _ _=>True | .mark _ _ _=>True | .far _ _=>True |_=>False
theorem rj{g:VG}{i:Int}(h:okN g i=true):Vabldl.nodeOf {graph:=g} i=some i.toNat:=by
 unfold Vabldl.nodeOf;rw[if_pos (of_decide_eq_true h)]
theorem yo{g:VG}{i:Int}(h:okN g i=false):Vabldl.nodeOf {graph:=g} i=none:=by
 unfold Vabldl.nodeOf;rw[if_neg (of_decide_eq_false h)]
theorem vk{g:VG}{i j:Int}{f:Nat->Nat->Vabldl.State×Vabldl.Answer}(h:(okN g i&&okN g j)=true):Vabldl.onTwo {graph:=g} i j f=f i.toNat j.toNat:=by
 rw[Bool.and_eq_true] at h;unfold Vabldl.onTwo;rw[rj h.1];show(match Vabldl.nodeOf {graph:=g} j with |none=>_ |some y=>f i.toNat y)=_;rw[rj h.2]
theorem vj{g:VG}{i j:Int}{f:Nat->Nat->Vabldl.State×Vabldl.Answer}(h:(okN g i&&okN g j)=false):Vabldl.onTwo {graph:=g} i j f=({graph:=g},Vabldl.no (-4)):=by
 unfold Vabldl.onTwo;cases h1:okN g i with
 |false=>rw[yo h1]
 |true=>
  rw[h1,Bool.true_and] at h;rw[rj h1];show(match Vabldl.nodeOf {graph:=g} j with |none=>_ |some y=>f i.toNat y)=_;rw[yo h]
theorem vf{is:List Int}{j:Nat}{a b r:List Int}(h:is.drop j=(a++b)++r):is.drop j=a++(b++r)/\is.drop (j+a.length)=b++r:=by
 rw[List.append_assoc] at h;exact⟨h,by rw[<-List.drop_drop,h,List.drop_left]⟩
theorem uS{n:Nat}(h:n<=2000):n<sizeLine:=Nat.lt_of_le_of_lt h (by decide)
theorem cg.su{t:Tx K mg w}{H H':Hp}{ga dg la lb lc:Addr}{nv:List V}{ms:List Addr}{g:VG}{needs:List Nat}{fa df cl:Addr}{is:List Int}{j:Nat}(F:cg t H fa df cl is j)(G:bx t H ga dg la lb lc nv ms g needs)(k:mN (Gm la lb lc ms) H H'):cg t H' fa df cl is j:=by
 have hm: ∀b,Gm la lb lc ms b->(∃xs,H b=some (.lst xs))∨ ∃af,H b=some (.dT af):=fun b h=>by
  rcases h with h |h |h |h
  ·exact .inl ⟨_,by rw[h];exact G.nodes⟩
  ·exact .inr ⟨_,by rw[h];exact G.names⟩
  ·exact .inl ⟨_,by rw[h];exact G.need⟩
  ·obtain⟨i,hi⟩:=List.mem_iff_getElem?.mp h;obtain⟨nd,bE⟩: ∃nd,g[i]? =some nd:=⟨_,List.getElem?_eq_getElem (by rw[<-G.gr];exact(List.getElem?_eq_some_iff.mp hi).1)⟩;obtain⟨v,mm,_,eG,hN⟩:=G.node i nd bE;rw[hi] at eG;cases eG;exact .inr hN.mW
 refine⟨k _ _ F.obj fun h=>?_,?_,F.len⟩
 ·rcases hm _ h with⟨xs,e⟩ |⟨xs,e⟩<;>(rw[F.obj] at e;cases e)
 ·rcases F.lst with⟨ob,e⟩ |e
  ·refine .inl ⟨ob,k _ _ e fun h=>?_⟩;rcases hm _ h with⟨xs,e2⟩ |⟨xs,e2⟩<;>(rw[e] at e2;cases e2)
  ·exact .inr e
inductive Kc(t:Tx K mg w)(vs:List V)(H:Hp)(Q:VK)(E:XK):Prop
 |mk(ga dg la lb lc:Addr)(nv:List V)(ms:List Addr)(g:VG)(needs:List Nat)(fa df cl:Addr)(is:List Int)(j:Nat)(k:Vabldl.Call)(r:List Int):vs=[.ref ga,.int (mP k:Nat),.ref fa]->Uo k->g6 k->bx t H ga dg la lb lc nv ms g needs->cg t H fa df cl is j->is.drop j=cH k++r->(dQ t H (fun l H'=> ∀v,l=[v]->Q (.int v) H') E ga dg la lb lc nv ms g fa df cl is (j+(cH k).length) (Vabldl.step {graph:=g} k))->Kc t vs H Q E
theorem yZ{is:List Int}{j:Nat}{a b:Int}{r:List Int}(h:is.drop j=[a,b]++r):is[j]? =some a/\is[j+1]? =some b:=by
 have h0:=congrArg (fun l=>l[0]?) h;have h1:=congrArg (fun l=>l[1]?) h;simp only [List.getElem?_drop,Nat.add_zero] at h0 h1;exact⟨h0,h1⟩
theorem Tt(t:Tx K mg w):aB P w K mg base (aC P w cs) 10 t.qA.f t.qA.fd ["graph","call","feed"] (Kc t):=by
 refine t.qA.F.aJ true ME (fun vs H Q E h=>?_) (fun ay A outer s H vs Q E hr h=>?_)
 ·obtain⟨ga,dg,la,lb,lc,nv,ms,g,needs,fa,df,cl,is,j,k,r,rfl,_⟩:=h;rfl
 ·obtain⟨ga,dg,la,lb,lc,nv,ms,g,needs,fa,df,cl,is,j,k,r,rfl,hk,dz,G,F,hd,o⟩:=h;obtain⟨t0,e0⟩:=t.JW;obtain⟨t1,e1⟩:=t.JU;obtain⟨t2,e2⟩:=t.Ky;obtain⟨t3,e3⟩:=t.JV;obtain⟨t9,e9⟩:=t.Kz;have qg:az 8 _:=hr.mono (by decide);have eI:az 7 _:=hr.mono (by decide);have bB:az 6 _:=hr.mono (by decide);have bj:az 5 _:=hr.mono (by decide);refine⟨_,ak (a9 (bg dE (pv 1) (bw (v:= .int 0) rfl e0 ⟨_,rfl⟩) (bc _)) (ao (aD (bz (pv 0) t.aX.cl t.om.me (Ol (cs:=cs) t) qg t.om.b .nil aE.passes (ae (cj (pv 2) t.bq.cl t.cS.me (iF (cs:=cs) t) bB t.cS.b .nil (ax (cs:=cs)))<|ae (cj (pv 2) t.bq.cl t.cS.me (iF (cs:=cs) t) bB t.cS.b .nil (ax (cs:=cs))) ag)))) a_)<|
   ak (a9 (bg dE (pv 1) (bw (v:= .int 1) rfl e1 ⟨_,rfl⟩) (bc _)) (ao (aD (bz (pv 0) t.aX.cl t.oj.me (Oj (cs:=cs) t) eI t.oj.b .nil aE.passes (ae (cj (pv 2) t.bq.cl t.dC.me (jP (cs:=cs) t) bj t.dC.b .nil (ax (cs:=cs)))<|ae (cj (pv 2) t.bq.cl t.dC.me (jP (cs:=cs) t) bj t.dC.b .nil (ax (cs:=cs))) ag)))) a_)<|
   ak (a9 (bg dE (pv 1) (bw (v:= .int 2) rfl e2 ⟨_,rfl⟩) (bc _)) (ao (aD (bz (pv 0) t.aX.cl t.oo.me (Om (cs:=cs) t) eI t.oo.b .nil aE.passes (ae (cj (pv 2) t.bq.cl t.dC.me (jP (cs:=cs) t) bj t.dC.b .nil (ax (cs:=cs)))<|ae (cj (pv 2) t.bq.cl t.dC.me (jP (cs:=cs) t) bj t.dC.b .nil (ax (cs:=cs))) ag)))) a_)<|
   ak (a9 (bg dE (pv 1) (bw (v:= .int 3) rfl e3 ⟨_,rfl⟩) (bc _)) (ao (aD (bz (pv 0) t.aX.cl t.oq.me (Ou (cs:=cs) t) qg t.oq.b .nil aE.passes (ae (cj (pv 2) t.bq.cl t.dC.me (jP (cs:=cs) t) bj t.dC.b .nil (ax (cs:=cs)))<|ae (cj (pv 2) t.bq.cl t.cS.me (iF (cs:=cs) t) bB t.cS.b .nil (ax (cs:=cs)))<|ae (cj (pv 2) t.bq.cl t.cS.me (iF (cs:=cs) t) bB t.cS.b .nil (ax (cs:=cs))) ag)))) a_)<|
   ak (a9 (bg dE (pv 1) (bw (v:= .int 9) rfl e9 ⟨_,rfl⟩) (bc _)) (ao (aD (bz (pv 0) t.aX.cl t.oI.me (Tu (cs:=cs) t) hr t.oI.b .nil aE.passes (ae (cj (pv 2) t.bq.cl t.dC.me (jP (cs:=cs) t) bj t.dC.b .nil (ax (cs:=cs)))<|ae (cj (pv 2) t.bq.cl t.dC.me (jP (cs:=cs) t) bj t.dC.b .nil (ax (cs:=cs))) ag)))) a_)<|yw,?_⟩
  cases k with
  |query x=>exact hk.elim
  |where_ x=>exact hk.elim
  |plain x=>exact hk.elim
  |path a b=>exact hk.elim
  |alike a b=>exact hk.elim
  |node n x=>
   refine gX (fun Rb hR=>⟨_,rfl,0,0,rfl,rfl,_,rfl,hR⟩) ?_;obtain⟨dY,fh⟩:=vf hd;refine⟨_,rfl,ga,_,_,rfl,G.obj,rfl,_,rfl,fa,_,_,rfl,F.obj,rfl,fa,df,cl,is,j,n,_,rfl,F,dY,fun H1 p1 k1 F1 nj=>?_⟩;refine⟨_,rfl,fa,_,_,rfl,F1.obj,rfl,fa,df,cl,is,_,x,_,rfl,F1,fh,fun H2 p2 k2 F2 gA=>?_⟩;have bQ:=k1.trans k2;have G2:=(G.d8 F.obj k1).d8 F1.obj k2;have zX:H2 p1=some (.tup (nums n)):=k2 _ _ nj fun q=>by rw[q,F1.obj] at nj;cases nj
   have F2:cg t H2 fa df cl is (j+(cH (.node n x)).length):=by
    rw[show j+(cH (.node n x)).length=j+(br n).length+(br x).length by show j+(br n++br x).length=_;rw[List.length_append];omega];exact F2
   have o:dQ t H _ E ga dg la lb lc nv ms g fa df cl is (j+(cH (.node n x)).length) (Vabldl.addNode {graph:=g} n x):=o;refine⟨ga,dg,la,lb,lc,nv,ms,g,needs,p1,p2,n,x,rfl,G2,zX,gA,uS dz.1,uS dz.2,fun hg=>?_,fun hg=>?_⟩
   ·have e:Vabldl.addNode {graph:=g} n x=({graph:=g},Vabldl.no (-1)):=by
     unfold Vabldl.addNode;rw[if_pos (by rw[<-Bool.not_and,hg];rfl)]
    rw[e] at o;exact o.fu bQ G2 F2 rfl (RC.of t.iy t.xq) rfl rfl
   ·have h0: ¬(!Vabldl.goodText n || !Vabldl.goodText x)=true:=by rw[<-Bool.not_and,hg];decide
    by_cases h1:(g.any fun y=>y.name==n)=true
    ·rw[if_pos h1];have e:Vabldl.addNode {graph:=g} n x=({graph:=g},Vabldl.no (-2)):=by unfold Vabldl.addNode;rw[if_neg h0,if_pos h1]
     rw[e] at o;exact o.fu bQ G2 F2 rfl (RC.of t.kQ t.BA) rfl rfl
    ·rw[if_neg h1]
     by_cases h2:64<=g.length
     ·rw[if_pos h2];have e:Vabldl.addNode {graph:=g} n x=({graph:=g},Vabldl.no (-3)):=by unfold Vabldl.addNode;rw[if_neg h0,if_neg h1,if_pos h2]
      rw[e] at o;exact o.fu bQ G2 F2 rfl (RC.of t.gM t.xp) rfl rfl
     ·rw[if_neg h2];have e:Vabldl.addNode {graph:=g} n x=({graph:=g++[pS n x]},Vabldl.told g.length []):=by unfold Vabldl.addNode;rw[if_neg h0,if_neg h1,if_neg h2];rfl
      rw[e] at o;intro H3 fH m kg hm G3;exact o.ok H3 fH _ _ (eO.ug bQ kg) ⟨[m],rfl,fun y hy=>(by rw[List.mem_singleton] at hy;rw[hy];exact bQ.free F2.obj hm)⟩ G3 (F2.su G2 kg) _ rfl
  |edge a b=>
   refine bI (fun Rb hR=>⟨_,rfl,1,0,rfl,rfl,_,rfl,hR⟩) ?_;refine gX (fun Rb hR=>⟨_,rfl,1,1,rfl,rfl,_,rfl,hR⟩) ?_;obtain⟨h1,h2⟩:=yZ hd;refine⟨_,rfl,ga,_,_,rfl,G.obj,rfl,_,rfl,fa,_,_,rfl,F.obj,rfl,fa,df,cl,is,j,a,rfl,F,h1,fun H1 k1 F1=>?_⟩;refine⟨_,rfl,fa,_,_,rfl,F1.obj,rfl,fa,df,cl,is,_,b,rfl,F1,h2,fun H2 k2 F2=>?_⟩;have bQ:=k1.trans k2;have G2:=(G.d8 F.obj k1).d8 F1.obj k2;have o:dQ t H _ E ga dg la lb lc nv ms g fa df cl is (j+1+1) (Vabldl.onTwo {graph:=g} a b fun x y=>if(Vabldl.needsOf g x).contains y then({graph:=g},Vabldl.told 0 []) else(Vabldl.change {graph:=g} x fun z=>{z with needs:=z.needs++[y]},Vabldl.told 1 [])):=o;refine⟨ga,dg,la,lb,lc,nv,ms,g,needs,a,b,rfl,G2,fun hn=>?_,fun hy=>?_⟩
   ·rw[vj hn] at o;exact o.fu bQ G2 F2 rfl (RC.of t.eX t.qy) rfl rfl
   ·rw[vk hy] at o
    by_cases hc:(Vabldl.needsOf g a.toNat).contains b.toNat=false
    ·rw[if_pos hc];rw[if_neg (by rw[hc];decide)] at o;intro H3 du kg G3;exact o.ok H3 nv ms du (eO.ug bQ kg) ⟨[],(List.append_nil _).symm,fun y hy=>(by cases hy)⟩ G3 (F2.su G2 kg) _ rfl
    ·rw[if_neg hc,if_neg (by decide)];have hc:(Vabldl.needsOf g a.toNat).contains b.toNat=true:=by cases h:(Vabldl.needsOf g a.toNat).contains b.toNat with |true=>rfl |false=>exact absurd h hc
     rw[if_pos hc] at o;exact o.ok H2 nv ms needs (eO.of bQ (ai.refl _)) ⟨[],(List.append_nil _).symm,fun y hy=>(by cases hy)⟩ G2 F2 _ rfl
  |cut a b=>
   refine bI (fun Rb hR=>⟨_,rfl,2,0,rfl,rfl,_,rfl,hR⟩) ?_;refine bI (fun Rb hR=>⟨_,rfl,2,1,rfl,rfl,_,rfl,hR⟩) ?_;refine gX (fun Rb hR=>⟨_,rfl,2,2,rfl,rfl,_,rfl,hR⟩) ?_;obtain⟨h1,h2⟩:=yZ hd;refine⟨_,rfl,ga,_,_,rfl,G.obj,rfl,_,rfl,fa,_,_,rfl,F.obj,rfl,fa,df,cl,is,j,a,rfl,F,h1,fun H1 k1 F1=>?_⟩;refine⟨_,rfl,fa,_,_,rfl,F1.obj,rfl,fa,df,cl,is,_,b,rfl,F1,h2,fun H2 k2 F2=>?_⟩;have bQ:=k1.trans k2;have G2:=(G.d8 F.obj k1).d8 F1.obj k2;have o:dQ t H _ E ga dg la lb lc nv ms g fa df cl is (j+1+1) (Vabldl.onTwo {graph:=g} a b fun x y=>if(Vabldl.needsOf g x).contains y then(Vabldl.change {graph:=g} x fun z=>{z with needs:=z.needs.filter fun w=>w != y},Vabldl.told 0 []) else({graph:=g},Vabldl.no (-5))):=o;refine⟨ga,dg,la,lb,lc,nv,ms,g,needs,a,b,rfl,G2,fun hn=>?_,fun hy=>?_⟩
   ·rw[vj hn] at o;exact o.fu bQ G2 F2 rfl (RC.of t.eX t.qy) rfl rfl
   ·rw[vk hy] at o
    by_cases hc:(Vabldl.needsOf g a.toNat).contains b.toNat=true
    ·rw[if_pos hc];rw[if_pos hc] at o;intro H3 du kg G3;exact o.ok H3 nv ms du (eO.ug bQ kg) ⟨[],(List.append_nil _).symm,fun y hy=>(by cases hy)⟩ G3 (F2.su G2 kg) _ rfl
    ·rw[if_neg hc,if_pos rfl];rw[if_neg hc] at o;exact o.fu bQ G2 F2 rfl (RC.of t.kR t.BG) rfl rfl
  |mark a n x=>
   refine bI (fun Rb hR=>⟨_,rfl,3,0,rfl,rfl,_,rfl,hR⟩) ?_;refine bI (fun Rb hR=>⟨_,rfl,3,1,rfl,rfl,_,rfl,hR⟩) ?_;refine bI (fun Rb hR=>⟨_,rfl,3,2,rfl,rfl,_,rfl,hR⟩) ?_;refine gX (fun Rb hR=>⟨_,rfl,3,3,rfl,rfl,_,rfl,hR⟩) ?_;have h1:is[j]? =some a:=by
    have:=congrArg (fun l=>l[0]?) hd;simp only [List.getElem?_drop,Nat.add_zero] at this;exact this
   have W2:is.drop (j+1)=(br n++br x)++r:=by rw[<-List.drop_drop,hd];rfl
   obtain⟨dY,fh⟩:=vf W2;refine⟨_,rfl,ga,_,_,rfl,G.obj,rfl,_,rfl,fa,_,_,rfl,F.obj,rfl,fa,df,cl,is,j,a,rfl,F,h1,fun H0 k0 F0=>?_⟩;refine⟨_,rfl,fa,_,_,rfl,F0.obj,rfl,fa,df,cl,is,_,n,_,rfl,F0,dY,fun H1 p1 k1 F1 nj=>?_⟩;refine⟨_,rfl,fa,_,_,rfl,F1.obj,rfl,fa,df,cl,is,_,x,_,rfl,F1,fh,fun H2 p2 k2 F2 gA=>?_⟩;have bQ:=(k0.trans k1).trans k2;have G2:=((G.d8 F.obj k0).d8 F0.obj k1).d8 F1.obj k2;have zX:H2 p1=some (.tup (nums n)):=k2 _ _ nj fun q=>by rw[q,F1.obj] at nj;cases nj
   have F2:cg t H2 fa df cl is (j+(cH (.mark a n x)).length):=by
    rw[show j+(cH (.mark a n x)).length=j+1+(br n).length+(br x).length by show j+(a::(br n++br x)).length=_;rw[List.length_cons,List.length_append];omega];exact F2
   have o:dQ t H _ E ga dg la lb lc nv ms g fa df cl is (j+(cH (.mark a n x)).length) (Vabldl.addMark {graph:=g} a n x):=o;refine⟨ga,dg,la,lb,lc,nv,ms,g,needs,a,p1,p2,n,x,rfl,G2,zX,gA,uS dz.1,uS dz.2,fun hn=>?_,fun hy hg=>?_,fun hy hg nd bE=>?_⟩
   ·have e:Vabldl.addMark {graph:=g} a n x=({graph:=g},Vabldl.no (-4)):=by unfold Vabldl.addMark;rw[yo hn]
    rw[e] at o;exact o.fu bQ G2 F2 rfl (RC.of t.eX t.qy) rfl rfl
   ·have e:Vabldl.addMark {graph:=g} a n x=({graph:=g},Vabldl.no (-1)):=by
     unfold Vabldl.addMark;rw[rj hy];show(if(!Vabldl.goodText n || !Vabldl.goodText x)=true then _ else _)=_;rw[if_pos (by rw[<-Bool.not_and,hg];rfl)]
    rw[e] at o;exact o.fu bQ G2 F2 rfl (RC.of t.iy t.xq) rfl rfl
   ·have e:Vabldl.addMark {graph:=g} a n x=(if(nd.marks.any fun y=>y.1==n)=true then(Vabldl.change {graph:=g} a.toNat fun y=>{y with marks:=y.marks.map fun m=>if m.1==n then(n,x) else m},Vabldl.told 0 []) else if 8<=nd.marks.length then({graph:=g},Vabldl.no (-3)) else(Vabldl.change {graph:=g} a.toNat fun y=>{y with marks:=y.marks++[(n,x)]},Vabldl.told 0 [])):=by
     unfold Vabldl.addMark;rw[rj hy];show(if(!Vabldl.goodText n || !Vabldl.goodText x)=true then _ else(let l:=match g[a.toNat]? with |some y=>y.marks |none=>[];if(l.any fun y=>y.1==n)=true then _ else if 8<=l.length then _ else _))=_;rw[if_neg (by rw[<-Bool.not_and,hg];decide),bE]
    rw[e] at o
    by_cases h1:(nd.marks.any fun y=>y.1==n)=true
    ·rw[if_pos h1] at o ⊢;intro H3 kg G3;exact o.ok H3 nv ms needs (eO.ug bQ kg) ⟨[],(List.append_nil _).symm,fun y hy=>(by cases hy)⟩ G3 (F2.su G2 kg) _ rfl
    ·rw[if_neg h1] at o ⊢
     by_cases h2:8<=nd.marks.length
     ·rw[if_pos h2] at o ⊢;exact o.fu bQ G2 F2 rfl (RC.of t.gM t.xp) rfl rfl
     ·rw[if_neg h2] at o ⊢;intro H3 kg G3;exact o.ok H3 nv ms needs (eO.ug bQ kg) ⟨[],(List.append_nil _).symm,fun y hy=>(by cases hy)⟩ G3 (F2.su G2 kg) _ rfl
  |far a b=>
   refine bI (fun Rb hR=>⟨_,rfl,9,0,rfl,rfl,_,rfl,hR⟩) ?_;refine bI (fun Rb hR=>⟨_,rfl,9,1,rfl,rfl,_,rfl,hR⟩) ?_;refine bI (fun Rb hR=>⟨_,rfl,9,2,rfl,rfl,_,rfl,hR⟩) ?_;refine bI (fun Rb hR=>⟨_,rfl,9,3,rfl,rfl,_,rfl,hR⟩) ?_;refine gX (fun Rb hR=>⟨_,rfl,9,9,rfl,rfl,_,rfl,hR⟩) ?_;obtain⟨h1,h2⟩:=yZ hd;refine⟨_,rfl,ga,_,_,rfl,G.obj,rfl,_,rfl,fa,_,_,rfl,F.obj,rfl,fa,df,cl,is,j,a,rfl,F,h1,fun H1 k1 F1=>?_⟩;refine⟨_,rfl,fa,_,_,rfl,F1.obj,rfl,fa,df,cl,is,_,b,rfl,F1,h2,fun H2 k2 F2=>?_⟩;have bQ:=k1.trans k2;have G2:=(G.d8 F.obj k1).d8 F1.obj k2;have o:dQ t H _ E ga dg la lb lc nv ms g fa df cl is (j+1+1) (Vabldl.onTwo {graph:=g} a b fun x y=>({graph:=g},match Vabldl.distance g x [y] with |some n=>Vabldl.told n [] |none=>Vabldl.no (-1))):=o;refine⟨ga,dg,la,lb,lc,nv,ms,g,needs,a,b,rfl,G2,fun hn=>?_,fun hy H3 s3=>?_⟩
   ·rw[vj hn] at o;exact o.fu bQ G2 F2 rfl (RC.of t.eX t.qy) rfl rfl
   ·rw[vk hy] at o;refine o.ok H3 nv ms needs (eO.of bQ s3) ⟨[],(List.append_nil _).symm,fun y hy=>(by cases hy)⟩ (G2.same s3) (F2.same s3) _ ?_;show VabldlNeutral.encode (match Vabldl.distance g a.toNat [b.toNat] with |some n=>Vabldl.told n [] |none=>Vabldl.no (-1))=_;cases Vabldl.distance g a.toNat [b.toNat]<;>rfl
end Bp
namespace Bp
open Bq
variable{K:FG}{mg:Str->Option Value}{w:World}{P:Program}{base:Heap}{cs:Addr}
open Vabldl (Graph Nodes Query Known)
theorem yB(g:Graph)(f:Nat->Bool):(Vabldl.those g f).length<=g.length:=by
 unfold Vabldl.those Vabldl.allOf;refine Nat.le_trans (List.length_filter_le _ _) ?_;rw[List.length_range];exact Nat.le_refl _
theorem FH{n:Nat}{f:Nodes->Nodes}(h: ∀s,(f s).length<=n): ∀(k:Nat)(s:Nodes),s.length<=n->(Vabldl.steps f k s).length<=n
 |0,s,hs=>hs
 |k+1,s,_=>FH h k (f s) (h s)
theorem xX{g:Graph}(n:Option Nat){s:Nodes}(h:s.length<=g.length):(Vabldl.reached g n s).length<=g.length:=FH (fun s=>yB g _) _ s h
theorem uV{a b:Option Nodes}{f:Nodes->Nodes->Nodes}{l:Nodes}(h:Vabldl.both a b f=some l): ∃x y,a=some x/\b=some y/\l=f x y:=by
 cases a with
 |none=>cases h
 |some x=>
  cases b with
  |none=>cases h
  |some y=>cases h;exact⟨x,y,rfl,rfl,rfl⟩
theorem Qm{g:Graph}{k:Known}(hk: ∀x∈k,x.2.length<=g.length){v:VT}{l:Nodes}(h:(k.find? fun x=>x.1==v).map (fun x=>x.2)=some l):l.length<=g.length:=by
 obtain⟨x,e,rfl⟩:=Option.map_eq_some_iff.mp h;exact hk x (List.mem_of_find?_eq_some e)
theorem jK{n:Nat}{s:Nodes}(h:s.length<=n)(p:Nat->Bool):(s.filter p).length<=n:=Nat.le_trans (List.length_filter_le _ _) h
theorem fN{g:Graph}: ∀(q:Query)(k:Known)(l:Nodes),(∀x∈k,x.2.length<=g.length)->Vabldl.mean g k q=some l->l.length<=g.length
 | .lit t,k,l,hk,h=>by
  have h:(g.findIdx? fun x=>x.name==t).map (fun a=>[a])=some l:=h;obtain⟨i,e,rfl⟩:=Option.map_eq_some_iff.mp h;have:=(List.findIdx?_eq_some_iff_getElem.mp e).1;show 1<=_;omega
 | .var v,k,l,hk,h=>Qm hk h
 | .all,k,l,hk,h=>by cases h;unfold Vabldl.allOf;rw[List.length_range];exact Nat.le_refl _
 | .op o a b,k,l,hk,h=>by
  obtain⟨x,y,e1,e2,rfl⟩:=uV h;have h1:=fN a k x hk e1;have h2:=fN b k y hk e2
  split
  ·exact yB g _
  ·split
   ·exact jK h1 _
   ·exact jK h1 _
 | .let_ v a b,k,l,hk,h=>by
  have h:(match Vabldl.mean g k a with |some s=>Vabldl.mean g ((v,s)::k) b |none=>none)=some l:=h;cases e:Vabldl.mean g k a with
  |none=>rw[e] at h;cases h
  |some s=>
   rw[e] at h;exact fN b _ l (fun x hx=>by
    rcases List.mem_cons.mp hx with rfl |hx
    ·exact fN a k s hk e
    ·exact hk x hx) h
 | .deps a n,k,l,hk,h=>by
  obtain⟨x,e,rfl⟩:=Option.map_eq_some_iff.mp (show(Vabldl.mean g k a).map (Vabldl.reached g n)=some l from h);exact xX n (fN a k x hk e)
 | .needers u a n,k,l,hk,h=>by
  obtain⟨x,y,e1,e2,rfl⟩:=uV h;exact jK (xX none (fN u k x hk e1)) _
 | .somepath a b,k,l,hk,h=>by
  obtain⟨x,y,e1,e2,rfl⟩:=uV h;exact yB g _
 | .allpaths a b,k,l,hk,h=>by
  obtain⟨x,y,e1,e2,rfl⟩:=uV h;exact jK (xX none (fN a k x hk e1)) _
 | .kind t a,k,l,hk,h=>by
  obtain⟨x,e,rfl⟩:=Option.map_eq_some_iff.mp (show(Vabldl.mean g k a).map _=some l from h);exact jK (fN a k x hk e) _
 | .filter t a,k,l,hk,h=>by
  obtain⟨x,e,rfl⟩:=Option.map_eq_some_iff.mp (show(Vabldl.mean g k a).map _=some l from h);exact jK (fN a k x hk e) _
 | .mark m t a,k,l,hk,h=>by
  obtain⟨x,e,rfl⟩:=Option.map_eq_some_iff.mp (show(Vabldl.mean g k a).map _=some l from h);exact jK (fN a k x hk e) _
 | .leaves a,k,l,hk,h=>by
  obtain⟨x,e,rfl⟩:=Option.map_eq_some_iff.mp (show(Vabldl.mean g k a).map _=some l from h);exact jK (fN a k x hk e) _
 | .roots a,k,l,hk,h=>by
  obtain⟨x,e,rfl⟩:=Option.map_eq_some_iff.mp (show(Vabldl.mean g k a).map _=some l from h);exact jK (fN a k x hk e) _
 | .first a,k,l,hk,h=>by
  obtain⟨x,e,rfl⟩:=Option.map_eq_some_iff.mp (show(Vabldl.mean g k a).map _=some l from h);have:=fN a k x hk e;rw[List.length_take];omega
theorem Ds(g:Graph): ∀(ls:List Nodes)(a:Nat),(Vabldl.pathFrom g ls a).length<=ls.length+1
 |[],a=>Nat.le_refl _
 |l::r,a=>by
  unfold Vabldl.pathFrom
  split
  ·rename_i b hb
   have:=Ds g r b;rw[List.length_cons,List.length_cons];omega
  ·show 1<=_;rw[List.length_cons];omega
theorem qX(f:Nodes->Nodes): ∀(k:Nat)(s:Nodes),(Vabldl.layers f k s).length=k+1
 |0,s=>rfl
 |k+1,s=>by show(Vabldl.layers f k (f s)).length+1=_;rw[qX f k]
theorem OM(g:Graph)(s u:Nodes):(Vabldl.chosen g s u).length<=g.length+2:=by
 unfold Vabldl.chosen;dsimp only
 split
 ·exact Nat.zero_le _
 ·split
  ·refine Nat.le_trans (Ds g _ _) ?_;rw[List.length_reverse,List.length_take];unfold Vabldl.rings;rw[qX];omega
  ·exact Nat.zero_le _
theorem yU(n:Nat)(l:List Nat):(VabldlNeutral.encode (Vabldl.told n l)).length=l.length+1:=by
 show(_::l.map Int.ofNat).length=_;rw[List.length_cons,List.length_map]
theorem yq{g:Graph}{a b:Int}{f:Nat->Nat->Vabldl.State×Vabldl.Answer}{n:Nat}(hn:1<=n)(h: ∀x y,(VabldlNeutral.encode (f x y).2).length<=n):(VabldlNeutral.encode (Vabldl.onTwo {graph:=g} a b f).2).length<=n:=by
 cases hy:okN g a&&okN g b with
 |true=>rw[vk hy];exact h _ _
 |false=>rw[vj hy];exact hn
theorem RF{g:Graph}(hg:g.length<=64)(k:Vabldl.Call):(VabldlNeutral.encode (Vabldl.step {graph:=g} k).2).length+1<=250*((cH k).length+1):=by
 have one: ∀{a:Vabldl.Answer},(VabldlNeutral.encode a).length<=1->(VabldlNeutral.encode a).length+1<=250*((cH k).length+1):=fun h=>by omega
 cases k with
 |node n x=>
  refine one ?_;show(VabldlNeutral.encode (Vabldl.addNode {graph:=g} n x).2).length<=1;unfold Vabldl.addNode
  split
  ·exact Nat.le_refl _
  ·split
   ·exact Nat.le_refl _
   ·split
    ·exact Nat.le_refl _
    ·exact Nat.le_refl _
 |edge a b=>exact one (yq (Nat.le_refl _) fun x y=>by split<;>exact Nat.le_refl _)
 |cut a b=>exact one (yq (Nat.le_refl _) fun x y=>by split<;>exact Nat.le_refl _)
 |mark a n x=>
  refine one ?_;show(VabldlNeutral.encode (Vabldl.addMark {graph:=g} a n x).2).length<=1;unfold Vabldl.addMark
  split
  ·exact Nat.le_refl _
  ·split
   ·exact Nat.le_refl _
   ·dsimp only
    repeat' (first |exact Nat.le_refl _ |split)
 |query x=>
  show(VabldlNeutral.encode (Vabldl.onQuery x _)).length+1<=_;unfold Vabldl.onQuery
  split
  ·show 2<=_;omega
  ·rename_i q hq
   show(VabldlNeutral.encode (match Vabldl.mean g [] q with |some l=>Vabldl.told 0 l |none=>Vabldl.no (-16))).length+1<=_;cases h:Vabldl.mean g [] q with
   |none=>show 2<=_;omega
   |some l=>
    show(VabldlNeutral.encode (Vabldl.told 0 l)).length+1<=_;have:=fN q [] l (fun x hx=>by cases hx) h;rw[yU];omega
 |where_ x=>
  show(VabldlNeutral.encode (match Vabldl.read x with | .ok _=>Vabldl.told 0 [0] | .error e=>Vabldl.told e.kind [e.place])).length+1<=_;cases Vabldl.read x with
  |error e=>show 3<=_;omega
  |ok q=>show 3<=_;omega
 |plain x=>
  show(VabldlNeutral.encode (Vabldl.onQuery x _)).length+1<=_;unfold Vabldl.onQuery
  split
  ·show 2<=_;omega
  ·rename_i q hq
   have:=(rV hq).2.1;rw[yU];show(Vabldl.plain q).length+1+1<=250*((br x).length+1);rw[Gk];omega
 |path a b=>
  show(VabldlNeutral.encode (Vabldl.onQueries {graph:=g} a b fun p q=>Vabldl.told 0 (Vabldl.chosen g p q))).length+1<=_;unfold Vabldl.onQueries
  split
  ·show 2<=_;omega
  ·split
   ·show 2<=_;omega
   ·split
    ·show 2<=_;omega
    ·split
     ·show 2<=_;omega
     ·rename_i p _ _ q _
      have:=OM g p q;rw[yU];omega
 |alike a b=>
  show(VabldlNeutral.encode (Vabldl.onQueries {graph:=g} a b _)).length+1<=_;unfold Vabldl.onQueries
  split
  ·show 2<=_;omega
  ·split
   ·show 2<=_;omega
   ·split
    ·show 2<=_;omega
    ·split
     ·show 2<=_;omega
     ·show 2<=_;omega
 |far a b=>exact one (yq (Nat.le_refl _) fun x y=>by show(VabldlNeutral.encode (match Vabldl.distance g x [y] with |some n=>_ |none=>_)).length<=1;cases Vabldl.distance g x [y]<;>exact Nat.le_refl _)
end Bp
namespace Bp
open PySem PySem.Spec PyProof.Rows L2 Bq
variable{K:FG}{mg:Str->Option Value}{w:World}{P:Program}{base:Heap}{cs:Addr}
def RL(H:Hp)(Q:VK):List Int->Hp->Prop:=fun l H'=> ∀a,H a=none->H' a=some (.lst (fw l))->Q (.ref a) H'
theorem o7(n:Nat)(l:List Nat):fw (VabldlNeutral.encode (Vabldl.told n l))=nums (n::l):=by
 show V.int (n:Int)::(l.map Int.ofNat).map V.int=V.int (n:Int)::nums l;rw[List.map_map];rfl
theorem P8{t:Tx K mg w}{H:Hp}{ga dg la lb lc:Addr}{nv:List V}{ms ef l:List Addr}{g:VG}{needs:List Nat}(G:bx t H ga dg la lb lc nv ef g needs)(e:ef=ms++l){b:Addr}(h:Gm la lb lc ms b):H b≠none:=by
 rcases h with h |h |h |h
 ·rw[h,G.nodes];exact Option.some_ne_none _
 ·rw[h,G.names];exact Option.some_ne_none _
 ·rw[h,G.need];exact Option.some_ne_none _
 ·obtain⟨i,hi⟩:=List.mem_iff_getElem?.mp (show b∈ef by rw[e];exact List.mem_append_left _ h);obtain⟨nd,bE⟩: ∃nd,g[i]? =some nd:=⟨_,List.getElem?_eq_getElem (by rw[<-G.gr];exact(List.getElem?_eq_some_iff.mp hi).1)⟩;obtain⟨v,mm,_,eG,hN⟩:=G.node i nd bE;rw[hi] at eG;cases eG;obtain⟨af,e2⟩:=hN.mW;rw[e2];exact Option.some_ne_none _
theorem Hn{t:Tx K mg w}{H H':Hp}{ga dg la lb lc:Addr}{nv:List V}{ms ef l:List Addr}{g:VG}{needs:List Nat}{fa df cl:Addr}{is:List Int}{j:Nat}(k:eO (Gm la lb lc ms) fa H H')(G:bx t H' ga dg la lb lc nv ef g needs)(e:ef=ms++l)(F:cg t H' fa df cl is j){b:Addr}(h:H' b=none):H b=none:=by
 cases q:H b with
 |none=>rfl
 |some o=>
  by_cases h1:Gm la lb lc ms b
  ·exact absurd h (P8 G e h1)
  ·by_cases h2:b=fa
   ·rw[h2,F.obj] at h;cases h
   ·rw[k b o q h1 h2] at h;cases h
theorem dQ.from{t:Tx K mg w}{H H1:Hp}{R:List Int->Hp->Prop}{E:XK}{ga dg la lb lc:Addr}{nv:List V}{ms:List Addr}{g:VG}{fa df cl:Addr}{is:List Int}{j:Nat}{o:HO}{st:Vabldl.State×Vabldl.Answer}(D:dQ t H R E ga dg la lb lc nv ms g fa df cl is j st)(k:aH fa H H1)(e:H1 fa=some o):dQ t H1 R E ga dg la lb lc nv ms g fa df cl is j st:=
 ⟨fun H' fH ef du kd ⟨l,e1,e2⟩ G F=>D.ok H' fH ef du (fun b o eb n1 n2=>kd b o (k b o eb n2) n1 n2) ⟨l,e1,fun m hm=>k.free e (e2 m hm)⟩ G F,
  fun H' du C d fs v kd G F rc hd=>D.bad H' du C d fs v (fun b o eb n1 n2=>kd b o (k b o eb n2) n1 n2) G F rc (k.free e hd)⟩
theorem dQ.gives{t:Tx K mg w}{H H1 H':Hp}{Q:VK}{E:XK}{ga dg la lb lc:Addr}{nv:List V}{ms:List Addr}{g:VG}{needs:List Nat}{fa df cl:Addr}{is:List Int}{j:Nat}{st:Vabldl.State×Vabldl.Answer}(D:dQ t H (RL H Q) E ga dg la lb lc nv ms g fa df cl is j st)(k:aH fa H H1)(G:bx t H1 ga dg la lb lc nv ms g needs)(F:cg t H1 fa df cl is j)(bL:st.1.graph=g)(s:ai H1 H'){a:Addr}{xs:List V}(ha:H1 a=none)(ea:H' a=some (.lst xs))(he:fw (VabldlNeutral.encode st.2)=xs):Q (.ref a) H':=by
 subst he;exact D.ok H' nv ms needs (eO.of k s) ⟨[],(List.append_nil _).symm,fun y hy=>(by cases hy)⟩ (by rw[bL];exact G.same s) (F.same s) a (k.free F.obj ha) ea
inductive zw(t:Tx K mg w)(vs:List V)(H:Hp)(Q:VK)(E:XK):Prop
 |mk(ga dg la lb lc:Addr)(nv:List V)(ms:List Addr)(g:VG)(needs:List Nat)(fa df cl:Addr)(is:List Int)(j:Nat)(k:Vabldl.Call)(r:List Int):vs=[.ref ga,.ref fa]->g6 k->bx t H ga dg la lb lc nv ms g needs->cg t H fa df cl is j->is.drop j=(mP k:Int)::(cH k++r)->dQ t H (RL H Q) E ga dg la lb lc nv ms g fa df cl is (j+1+(cH k).length) (Vabldl.step {graph:=g} k)->zw t vs H Q E
theorem FR{t:Tx K mg w}{H:Hp}{E:XK}{g:VG}{xa xb:VT}{S:Vabldl.Nodes->Vabldl.Nodes->Prop}{f:Vabldl.Nodes->Vabldl.Nodes->Vabldl.Answer}
  (hT: ∀(C:Addr)(fs:List (Str×V))(v:Int),RC t C->fs.lookup ("number":Str)=some (.int v)->Vabldl.onQueries {graph:=g} xa xb f=Vabldl.no v->Throws H C fs E)
  (hS: ∀p q,Vabldl.onQueries {graph:=g} xa xb f=f p q->S p q):lg t H E g xa xb S:=by
 unfold lg;have e0:Vabldl.onQueries {graph:=g} xa xb f=match Vabldl.read xa with
  | .error e=>Vabldl.no (Vabldl.faultNo e)
  | .ok x=>match Vabldl.read xb with
   | .error e=>Vabldl.no (Vabldl.faultNo e-10)
   | .ok y=>match Vabldl.mean g [] x with
    |none=>Vabldl.no (-16)
    |some p=>match Vabldl.mean g [] y with
     |none=>Vabldl.no (-26)
     |some q=>f p q:=rfl
 cases ha:Vabldl.read xa with
 |error e=>rw[ha] at e0;exact hT _ _ _ (RC.fc (fc t e.kind)) rfl e0
 |ok x=>
  rw[ha] at e0;cases hb:Vabldl.read xb with
  |error e=>rw[hb] at e0;exact hT _ _ _ (RC.of t.aO t.xn) rfl e0
  |ok y=>
   rw[hb] at e0;dsimp only at e0 ⊢;cases h1:Vabldl.mean g [] x with
   |none=>rw[h1] at e0;exact hT _ _ _ (RC.of t.dG t.xm) rfl e0
   |some p=>
    rw[h1] at e0;dsimp only at e0 ⊢;cases h2:Vabldl.mean g [] y with
    |none=>rw[h2] at e0;exact hT _ _ _ (RC.of t.aO t.xn) rfl e0
    |some q=>rw[h2] at e0;exact hS p q e0
theorem R_(t:Tx K mg w):aB P w K mg base (aC P w t.aO.C) 130 t.done.f t.done.fd ["graph","feed"] (zw t):=by
 refine t.done.F.aJ true HZ (fun vs H Q E h=>?_) (fun ay A outer s H vs Q E hr h=>?_)
 ·obtain⟨ga,dg,la,lb,lc,nv,ms,g,needs,fa,df,cl,is,j,k,r,rfl,_⟩:=h;rfl
 ·obtain⟨ga,dg,la,lb,lc,nv,ms,g,needs,fa,df,cl,is,j,k,r,rfl,dz,G,F,hd,o⟩:=h;obtain⟨t4,e4⟩:=t.IY;obtain⟨t5,e5⟩:=t.I_;obtain⟨t6,e6⟩:=t.IX;obtain⟨t7,e7⟩:=t.JX;obtain⟨t8,e8⟩:=t.IW;have JS:az 115 _:=hr.mono (by decide);have JR:az 113 _:=hr.mono (by decide);have VI:az 10 _:=hr.mono (by decide);have bB:az 6 _:=hr.mono (by decide);have bj:az 5 _:=hr.mono (by decide);refine⟨_,ak (aT 2 HZ.nd (cj (pv 1) t.bq.cl t.dC.me (jP (cs:=t.aO.C) t) bj t.dC.b .nil (ax (cs:=t.aO.C))))<|
   ak (a9 (bg dE (pv 2) (bw (v:= .int 4) rfl e4 ⟨_,rfl⟩) (bc _)) (ao (aD (aK t.query (QU (cs:=t.aO.C) t) JR aE.passes (ae (pv 0)<|ae (cj (pv 1) t.bq.cl t.cS.me (iF (cs:=t.aO.C) t) bB t.cS.b .nil (ax (cs:=t.aO.C))) ag)))) a_)<|
   ak (a9 (bg dE (pv 2) (bw (v:= .int 5) rfl e5 ⟨_,rfl⟩) (bc _)) (ao (aD (aK t.where_ (QW (cs:=t.aO.C) t) JR aE.passes (ae (cj (pv 1) t.bq.cl t.cS.me (iF (cs:=t.aO.C) t) bB t.cS.b .nil (ax (cs:=t.aO.C))) ag)))) a_)<|
   ak (a9 (bg dE (pv 2) (bw (v:= .int 6) rfl e6 ⟨_,rfl⟩) (bc _)) (ao (aD (aK t.plain (PL (cs:=t.aO.C) t) hr aE.passes (ae (cj (pv 1) t.bq.cl t.cS.me (iF (cs:=t.aO.C) t) bB t.cS.b .nil (ax (cs:=t.aO.C))) ag)))) a_)<|
   ak (a9 (bg dE (pv 2) (bw (v:= .int 7) rfl e7 ⟨_,rfl⟩) (bc _)) (ao (aD (aK t.path (Sb t) JS aE.passes (ae (pv 0)<|ae (cj (pv 1) t.bq.cl t.cS.me (iF (cs:=t.aO.C) t) bB t.cS.b .nil (ax (cs:=t.aO.C)))<|ae (cj (pv 1) t.bq.cl t.cS.me (iF (cs:=t.aO.C) t) bB t.cS.b .nil (ax (cs:=t.aO.C))) ag)))) a_)<|
   ak (a9 (bg dE (pv 2) (bw (v:= .int 8) rfl e8 ⟨_,rfl⟩) (bc _)) (ao (aD (aK t.alike (QO t) JS aE.passes (ae (pv 0)<|ae (cj (pv 1) t.bq.cl t.cS.me (iF (cs:=t.aO.C) t) bB t.cS.b .nil (ax (cs:=t.aO.C)))<|ae (cj (pv 1) t.bq.cl t.cS.me (iF (cs:=t.aO.C) t) bB t.cS.b .nil (ax (cs:=t.aO.C))) ag)))) a_)<|
   ao (aD (dw (ae (aK t.qA (Tt (cs:=t.aO.C) t) VI aE.passes (ae (pv 0)<|ae (pv 2)<|ae (pv 1) ag)) ag))),?_⟩
  have hj:is[j]? =some (mP k:Int):=by
   have:=congrArg (fun l=>l[0]?) hd;simp only [List.getElem?_drop,Nat.add_zero] at this;exact this
  have dY:is.drop (j+1)=cH k++r:=by rw[<-List.drop_drop,hd];rfl
  refine⟨_,rfl,fa,_,_,rfl,F.obj,rfl,fa,df,cl,is,j,_,rfl,F,hj,fun H1 k1 F1=>?_⟩;dsimp only [d6,de,Ends.d9];have G1:=G.d8 F.obj k1;have fin:dQ t H1 (fun l H'=> ∀v,l=[v]->(1<=sizeLine/\ ∀a,H' a=none->Q (.ref a) (upd H' a (.lst [.int v])))) E ga dg la lb lc nv ms g fa df cl is (j+1+(cH k).length) (Vabldl.step {graph:=g} k):=by
   have o1:=o.from k1 F1.obj;refine⟨fun H' fH ef du kd qe G' F' v hv=>⟨by decide,fun a ha=>?_⟩,o1.bad⟩;obtain⟨l,e1,e2⟩:=qe;have s':ai H' (upd H' a (.lst [.int v])):=ai.new ha;have hf:=Hn kd G' e1 F' ha;have q:=o1.ok (upd H' a (.lst [.int v])) fH ef du (fun b o eb n1 n2=>s' _ _ (kd b o eb n1 n2)) ⟨l,e1,e2⟩ (G'.same s') (F'.same s');rw[hv] at q;exact q a (k1.free F1.obj hf) au
  cases k with
  |query x=>
   refine gX (fun Rb hR=>⟨_,rfl,4,4,rfl,rfl,_,rfl,hR⟩) ?_;refine⟨_,rfl,_,rfl,fa,_,_,rfl,F1.obj,rfl,fa,df,cl,is,j+1,x,_,rfl,F1,dY,fun H2 p k2 F2 ep=>?_⟩;have bQ:=k1.trans k2;have G2:=G1.d8 F1.obj k2;have o:dQ t H (RL H Q) E ga dg la lb lc nv ms g fa df cl is (j+1+(br x).length) ({graph:=g},match Vabldl.read x with | .error e=>Vabldl.no (Vabldl.faultNo e) | .ok q=>match Vabldl.mean g [] q with |some l=>Vabldl.told 0 l |none=>Vabldl.no (-16)):=o;refine⟨ga,dg,la,lb,lc,nv,ms,g,needs,p,x,rfl,G2,ep,?_⟩;cases c6:Vabldl.read x with
   |error e=>rw[c6] at o;exact o.fu bQ G2 F2 rfl (RC.fc (fc t e.kind)) rfl rfl
   |ok q=>
    rw[c6] at o;dsimp only at o ⊢;cases hm:Vabldl.mean g [] q with
    |none=>rw[hm] at o;exact o.fu bQ G2 F2 rfl (RC.of t.dG t.xm) rfl rfl
    |some l=>
     rw[hm] at o;intro H3 a s3 ha ea;exact o.gives bQ G2 F2 rfl s3 ha ea (o7 _ _)
  |where_ x=>
   refine bI (fun Rb hR=>⟨_,rfl,5,4,rfl,rfl,_,rfl,hR⟩) ?_;refine gX (fun Rb hR=>⟨_,rfl,5,5,rfl,rfl,_,rfl,hR⟩) ?_;refine⟨_,rfl,fa,_,_,rfl,F1.obj,rfl,fa,df,cl,is,j+1,x,_,rfl,F1,dY,fun H2 p k2 F2 ep=>?_⟩;have bQ:=k1.trans k2;have G2:=G1.d8 F1.obj k2;have o:dQ t H (RL H Q) E ga dg la lb lc nv ms g fa df cl is (j+1+(br x).length) ({graph:=g},match Vabldl.read x with | .ok _=>Vabldl.told 0 [0] | .error e=>Vabldl.told e.kind [e.place]):=o;refine⟨p,x,rfl,ep,?_⟩;cases c6:Vabldl.read x with
   |error e=>
    rw[c6] at o;intro H3 a s3 ha ea;exact o.gives bQ G2 F2 rfl s3 ha ea (o7 _ _)
   |ok q=>
    rw[c6] at o;intro H3 a s3 ha ea;exact o.gives bQ G2 F2 rfl s3 ha ea (o7 _ _)
  |plain x=>
   refine bI (fun Rb hR=>⟨_,rfl,6,4,rfl,rfl,_,rfl,hR⟩) ?_;refine bI (fun Rb hR=>⟨_,rfl,6,5,rfl,rfl,_,rfl,hR⟩) ?_;refine gX (fun Rb hR=>⟨_,rfl,6,6,rfl,rfl,_,rfl,hR⟩) ?_;refine⟨_,rfl,fa,_,_,rfl,F1.obj,rfl,fa,df,cl,is,j+1,x,_,rfl,F1,dY,fun H2 p k2 F2 ep=>?_⟩;have bQ:=k1.trans k2;have G2:=G1.d8 F1.obj k2;have o:dQ t H (RL H Q) E ga dg la lb lc nv ms g fa df cl is (j+1+(br x).length) ({graph:=g},match Vabldl.read x with | .error e=>Vabldl.no (Vabldl.faultNo e) | .ok q=>Vabldl.told 0 (Vabldl.plain q)):=o;refine⟨p,x,rfl,ep,?_⟩;cases c6:Vabldl.read x with
   |error e=>rw[c6] at o;exact o.fu bQ G2 F2 rfl (RC.fc (fc t e.kind)) rfl rfl
   |ok q=>
    rw[c6] at o;intro H3 a s3 ha ea;exact o.gives bQ G2 F2 rfl s3 ha ea (o7 _ _)
  |path a b=>
   refine bI (fun Rb hR=>⟨_,rfl,7,4,rfl,rfl,_,rfl,hR⟩) ?_;refine bI (fun Rb hR=>⟨_,rfl,7,5,rfl,rfl,_,rfl,hR⟩) ?_;refine bI (fun Rb hR=>⟨_,rfl,7,6,rfl,rfl,_,rfl,hR⟩) ?_;refine gX (fun Rb hR=>⟨_,rfl,7,7,rfl,rfl,_,rfl,hR⟩) ?_;obtain⟨gC,bC⟩:=vf (a:=br a) (b:=br b) dY;refine⟨_,rfl,_,rfl,fa,_,_,rfl,F1.obj,rfl,fa,df,cl,is,j+1,a,_,rfl,F1,gC,fun H2 p2 k2 F2 gA=>?_⟩;refine⟨_,rfl,fa,_,_,rfl,F2.obj,rfl,fa,df,cl,is,_,b,_,rfl,F2,bC,fun H3 p3 k3 F3 Aw=>?_⟩;have ir:=(k1.trans k2).trans k3;have G3:=(G1.d8 F1.obj k2).d8 F2.obj k3;have zY:H3 p2=some (.tup (nums a)):=k3 _ _ gA fun q=>by rw[q,F2.obj] at gA;cases gA
   have F3:cg t H3 fa df cl is (j+1+(cH (.path a b)).length):=by
    rw[show j+1+(cH (.path a b)).length=j+1+(br a).length+(br b).length by show j+1+(br a++br b).length=_;rw[List.length_append];omega];exact F3
   have o:dQ t H (RL H Q) E ga dg la lb lc nv ms g fa df cl is (j+1+(cH (.path a b)).length) ({graph:=g},Vabldl.onQueries {graph:=g} a b fun p q=>Vabldl.told 0 (Vabldl.chosen g p q)):=o;refine⟨ga,dg,la,lb,lc,nv,ms,g,needs,p2,p3,a,b,rfl,G3,zY,Aw,FR (f:=fun p q=>Vabldl.told 0 (Vabldl.chosen g p q)) (fun C fs v rc hf he=>?_) fun p q he=>?_⟩
   ·exact o.fu ir G3 F3 rfl rc hf (by dsimp only;rw[he];rfl)
   ·intro H4 l s4 hl el;exact o.gives ir G3 F3 rfl s4 hl el (by dsimp only;rw[he];exact o7 _ _)
  |alike a b=>
   refine bI (fun Rb hR=>⟨_,rfl,8,4,rfl,rfl,_,rfl,hR⟩) ?_;refine bI (fun Rb hR=>⟨_,rfl,8,5,rfl,rfl,_,rfl,hR⟩) ?_;refine bI (fun Rb hR=>⟨_,rfl,8,6,rfl,rfl,_,rfl,hR⟩) ?_;refine bI (fun Rb hR=>⟨_,rfl,8,7,rfl,rfl,_,rfl,hR⟩) ?_;refine gX (fun Rb hR=>⟨_,rfl,8,8,rfl,rfl,_,rfl,hR⟩) ?_;obtain⟨gC,bC⟩:=vf (a:=br a) (b:=br b) dY;refine⟨_,rfl,_,rfl,fa,_,_,rfl,F1.obj,rfl,fa,df,cl,is,j+1,a,_,rfl,F1,gC,fun H2 p2 k2 F2 gA=>?_⟩;refine⟨_,rfl,fa,_,_,rfl,F2.obj,rfl,fa,df,cl,is,_,b,_,rfl,F2,bC,fun H3 p3 k3 F3 Aw=>?_⟩;have ir:=(k1.trans k2).trans k3;have G3:=(G1.d8 F1.obj k2).d8 F2.obj k3;have zY:H3 p2=some (.tup (nums a)):=k3 _ _ gA fun q=>by rw[q,F2.obj] at gA;cases gA
   have F3:cg t H3 fa df cl is (j+1+(cH (.alike a b)).length):=by
    rw[show j+1+(cH (.alike a b)).length=j+1+(br a).length+(br b).length by show j+1+(br a++br b).length=_;rw[List.length_append];omega];exact F3
   have o:dQ t H (RL H Q) E ga dg la lb lc nv ms g fa df cl is (j+1+(cH (.alike a b)).length) ({graph:=g},Vabldl.onQueries {graph:=g} a b fun p q=>Vabldl.told (if p==q then 1 else 0) []):=o;refine⟨ga,dg,la,lb,lc,nv,ms,g,needs,p2,p3,a,b,rfl,G3,zY,Aw,FR (f:=fun p q=>Vabldl.told (if p==q then 1 else 0) []) (fun C fs v rc hf he=>?_) fun p q he=>?_⟩
   ·exact o.fu ir G3 F3 rfl rc hf (by dsimp only;rw[he];rfl)
   ·intro H4 l s4 hl el;exact o.gives ir G3 F3 rfl s4 hl el (by dsimp only;rw[he];exact o7 _ _)
  |node n x=>
   refine bI (fun Rb hR=>⟨_,rfl,0,4,rfl,rfl,_,rfl,hR⟩) ?_;refine bI (fun Rb hR=>⟨_,rfl,0,5,rfl,rfl,_,rfl,hR⟩) ?_;refine bI (fun Rb hR=>⟨_,rfl,0,6,rfl,rfl,_,rfl,hR⟩) ?_;refine bI (fun Rb hR=>⟨_,rfl,0,7,rfl,rfl,_,rfl,hR⟩) ?_;refine bI (fun Rb hR=>⟨_,rfl,0,8,rfl,rfl,_,rfl,hR⟩) ?_;exact⟨_,rfl,_,rfl,_,rfl,ga,dg,la,lb,lc,nv,ms,g,needs,fa,df,cl,is,j+1,_,r,rfl,trivial,dz,G1,F1,dY,fin⟩
  |edge a b=>
   refine bI (fun Rb hR=>⟨_,rfl,1,4,rfl,rfl,_,rfl,hR⟩) ?_;refine bI (fun Rb hR=>⟨_,rfl,1,5,rfl,rfl,_,rfl,hR⟩) ?_;refine bI (fun Rb hR=>⟨_,rfl,1,6,rfl,rfl,_,rfl,hR⟩) ?_;refine bI (fun Rb hR=>⟨_,rfl,1,7,rfl,rfl,_,rfl,hR⟩) ?_;refine bI (fun Rb hR=>⟨_,rfl,1,8,rfl,rfl,_,rfl,hR⟩) ?_;exact⟨_,rfl,_,rfl,_,rfl,ga,dg,la,lb,lc,nv,ms,g,needs,fa,df,cl,is,j+1,_,r,rfl,trivial,dz,G1,F1,dY,fin⟩
  |cut a b=>
   refine bI (fun Rb hR=>⟨_,rfl,2,4,rfl,rfl,_,rfl,hR⟩) ?_;refine bI (fun Rb hR=>⟨_,rfl,2,5,rfl,rfl,_,rfl,hR⟩) ?_;refine bI (fun Rb hR=>⟨_,rfl,2,6,rfl,rfl,_,rfl,hR⟩) ?_;refine bI (fun Rb hR=>⟨_,rfl,2,7,rfl,rfl,_,rfl,hR⟩) ?_;refine bI (fun Rb hR=>⟨_,rfl,2,8,rfl,rfl,_,rfl,hR⟩) ?_;exact⟨_,rfl,_,rfl,_,rfl,ga,dg,la,lb,lc,nv,ms,g,needs,fa,df,cl,is,j+1,_,r,rfl,trivial,dz,G1,F1,dY,fin⟩
  |mark a n x=>
   refine bI (fun Rb hR=>⟨_,rfl,3,4,rfl,rfl,_,rfl,hR⟩) ?_;refine bI (fun Rb hR=>⟨_,rfl,3,5,rfl,rfl,_,rfl,hR⟩) ?_;refine bI (fun Rb hR=>⟨_,rfl,3,6,rfl,rfl,_,rfl,hR⟩) ?_;refine bI (fun Rb hR=>⟨_,rfl,3,7,rfl,rfl,_,rfl,hR⟩) ?_;refine bI (fun Rb hR=>⟨_,rfl,3,8,rfl,rfl,_,rfl,hR⟩) ?_;exact⟨_,rfl,_,rfl,_,rfl,ga,dg,la,lb,lc,nv,ms,g,needs,fa,df,cl,is,j+1,_,r,rfl,trivial,dz,G1,F1,dY,fin⟩
  |far a b=>
   refine bI (fun Rb hR=>⟨_,rfl,9,4,rfl,rfl,_,rfl,hR⟩) ?_;refine bI (fun Rb hR=>⟨_,rfl,9,5,rfl,rfl,_,rfl,hR⟩) ?_;refine bI (fun Rb hR=>⟨_,rfl,9,6,rfl,rfl,_,rfl,hR⟩) ?_;refine bI (fun Rb hR=>⟨_,rfl,9,7,rfl,rfl,_,rfl,hR⟩) ?_;refine bI (fun Rb hR=>⟨_,rfl,9,8,rfl,rfl,_,rfl,hR⟩) ?_;exact⟨_,rfl,_,rfl,_,rfl,ga,dg,la,lb,lc,nv,ms,g,needs,fa,df,cl,is,j+1,_,r,rfl,trivial,dz,G1,F1,dY,fin⟩
def fQ(k:Vabldl.Call):List Int:=(mP k:Int)::cH k
def hZ:VG->List Vabldl.Call->List Int
 |_,[]=>[]
 |g,k::r=>((VabldlNeutral.encode (Vabldl.step {graph:=g} k).2).length:Int)::(VabldlNeutral.encode (Vabldl.step {graph:=g} k).2++hZ (Vabldl.step {graph:=g} k).1.graph r)
theorem Fz.same{K:FG}{H H':Hp}{a:Addr}{xs:List V}(h:Fz K H a xs)(s:ai H H'):Fz K H' a xs:=by
 rcases h with⟨o,h⟩ |h
 ·exact .inl ⟨o,s _ _ h⟩
 ·exact .inr h
theorem cg.zF{t:Tx K mg w}{H H':Hp}{fa df cl tl:Addr}{is:List Int}{j:Nat}{xs:List V}(F:cg t H fa df cl is j)(e:H tl=some (.lst xs))(k:aH tl H H'):cg t H' fa df cl is j:=by
 refine⟨k _ _ F.obj fun q=>(by rw[<-q,F.obj] at e;cases e),?_,F.len⟩;rcases F.lst with⟨ob,e2⟩ |e2
 ·exact .inl ⟨ob,k _ _ e2 fun q=>by rw[<-q,e2] at e;cases e⟩
 ·exact .inr e2
theorem bx.zF{t:Tx K mg w}{H H':Hp}{ga dg la lb lc tl:Addr}{nv:List V}{ms:List Addr}{g:VG}{needs:List Nat}{xs:List V}(G:bx t H ga dg la lb lc nv ms g needs)(e:H tl=some (.lst xs))(na:la≠tl)(nc:lc≠tl)(k:aH tl H H'):bx t H' ga dg la lb lc nv ms g needs:=by
 have nl: ∀b o,H b=some o->(∀xs,o≠ .lst xs)->H' b=some o:=fun b o eb n=>k b o eb fun q=>by rw[q,e] at eb;cases eb;exact n _ rfl
 refine⟨nl _ _ G.obj (by intro xs q;cases q),k _ _ G.nodes na,nl _ _ G.names (by intro xs q;cases q),k _ _ G.need nc,G.len,G.gr,fun i nd h=>?_,G.nd,G.jE,G.kz,G.rel,G.le,G.good⟩;obtain⟨v,m,e1,e2,x,dx,nm,kd,af,h1,h2,h3,h4,h5,h6,h7,h8⟩:=G.node i nd h;have ht: ∀b xs,H b=some (.tup xs)->H' b=some (.tup xs):=fun b xs eb=>nl _ _ eb (by intro C q;cases q);exact⟨v,m,e1,e2,x,dx,nm,kd,af,h1,nl _ _ h2 (by intro xs q;cases q),h3.keep ht,h4.keep ht,nl _ _ h5 (by intro xs q;cases q),Paired.c5 (fun a c g=>⟨g.1,g.2.keep ht⟩) h6,h7,h8⟩
theorem bx.VV{t:Tx K mg w}{H:Hp}{ga dg la lb lc tl:Addr}{nv:List V}{ms:List Addr}{g:VG}{needs:List Nat}{xs:List V}(G:bx t H ga dg la lb lc nv ms g needs)(e:H tl=some (.lst xs))(na:la≠tl)(nc:lc≠tl): ¬Gm la lb lc ms tl:=by
 intro h;rcases h with h |h |h |h
 ·exact na h.symm
 ·rw[h,G.names] at e;cases e
 ·exact nc h.symm
 ·obtain⟨i,hi⟩:=List.mem_iff_getElem?.mp h;obtain⟨nd,bE⟩: ∃nd,g[i]? =some nd:=⟨_,List.getElem?_eq_getElem (by rw[<-G.gr];exact(List.getElem?_eq_some_iff.mp hi).1)⟩;obtain⟨v,mm,_,eG,hN⟩:=G.node i nd bE;rw[hi] at eG;cases eG;obtain⟨af,e2⟩:=hN.mW;rw[e2] at e;cases e
inductive Ig(t:Tx K mg w)(vs:List V)(H:Hp)(Q:VK)(E:XK):Prop
 |mk(fa df cl:Addr)(is:List Int)(j:Nat):vs=[.ref fa]->cg t H fa df cl is j->Q (.bl (decide (j=is.length))) H->Ig t vs H Q E
inductive GC(t:Tx K mg w)(vs:List V)(H:Hp)(Q:VK)(E:XK):Prop
 |mk(ga dg la lb lc:Addr)(nv:List V)(ms:List Addr)(g:VG)(needs:List Nat)(fa df cl:Addr)(is:List Int)(j:Nat)(k:Vabldl.Call)(r:List Int):vs=[.ref ga,.ref fa]->g6 k->bx t H ga dg la lb lc nv ms g needs->cg t H fa df cl is j->is.drop j=(mP k:Int)::(cH k++r)->(∀H' fH ef du a,eO (Gm la lb lc ms) fa H H'->bx t H' ga dg la lb lc fH ef (Vabldl.step {graph:=g} k).1.graph du->cg t H' fa df cl is (j+1+(cH k).length)->H a=none->H' a=some (.lst (fw (VabldlNeutral.encode (Vabldl.step {graph:=g} k).2)))->Q (.ref a) H')->GC t vs H Q E
inductive oX(K:FG)(vs:List V)(H:Hp)(Q:VK)(E:XK):Prop
 |mk(cl:Addr)(is:List Int)(ks:List Vabldl.Call):vs=[.ref cl]->Fz K H cl (fw is)->is.length<=16000->(∀k∈ks,g6 k)->is=ks.flatMap fQ->(∀H' p,H' p=some (.lst (fw (hZ [] ks)))->Q (.ref p) H')->oX K vs H Q E
theorem Oo(t:Tx K mg w):aB P w K mg base (aC P w cs) 5 t.ow.f t.ow.fd ["self"] (Ig t):=by
 refine t.ow.F.aJ true MS (fun vs H Q E h=>?_) (fun ay A outer s H vs Q E hr h=>?_)
 ·obtain⟨fa,df,cl,is,j,rfl,_⟩:=h;rfl
 ·obtain⟨fa,df,cl,is,j,rfl,F,k⟩:=h;refine⟨_,ao (aD (ji dE (aQ (pv 0) rfl) (bV dH rfl t.dy rfl (ae (aQ (pv 0) rfl) ag)) (bc _))),?_⟩;refine⟨_,rfl,fa,_,_,_,_,rfl,F.obj,t.bq.cl,t.bq.nn,rfl,_,rfl,fa,_,_,_,_,rfl,F.obj,t.bq.cl,t.bq.nn,rfl,cl,_,rfl,.inl F.lst.sq,j,is.length,rfl,(by rw[List.length_map]),k⟩
theorem PH(t:Tx K mg w):aB P w K mg base (aC P w t.aO.C) 131 t.answer.f t.answer.fd ["graph","feed"] (GC t):=by
 refine t.answer.F.aJ true Fp (fun vs H Q E h=>?_) (fun ay A outer s H vs Q E hr h=>?_)
 ·obtain⟨ga,dg,la,lb,lc,nv,ms,g,needs,fa,df,cl,is,j,k,r,rfl,_⟩:=h;rfl
 ·obtain⟨ga,dg,la,lb,lc,nv,ms,g,needs,fa,df,cl,is,j,k,r,rfl,dz,G,F,hd,o⟩:=h;refine⟨_,ao (vN (i:=2) (cs:=t.aO.C) (tb:=fun E1=>wo (mY (zw t) [] E1 (iO (dU 0) (iO (dU 1) iT)))) aE ⟨rfl,rfl⟩ (fun a=>PassesOwnAt.leaving) Fp.nd rfl rfl rfl t.cG.m t.cG.cl
    (fun pn nR E1 T1 P1=>ao (aD (aK t.done (R_ t) hr T1.passes (ae (pv 0)<|ae (pv 1) ag))))
    (fun a qx T2=>ao (aD (dw (ae (sO (K:=K) (cs:=t.aO.C) rfl (pv 2) rfl) ag))))),?_⟩
  refine⟨_,rfl,_,rfl,ga,dg,la,lb,lc,nv,ms,g,needs,fa,df,cl,is,j,k,r,rfl,dz,G,F,hd,?_,?_⟩
  ·intro H' fH ef du kd qe G' F' a ha ea;exact o H' fH ef du a kd G' F' ha ea
  ·intro H' du C d fs v kd G' F' rc hd ed hf he;refine⟨_,d,rfl,rfl,rc.cl,rc.sr,fun a ha=>?_⟩;have lT:(upd H' a (XH t.aO.C a C d)) d=some (XD d fs):=by rw[aj (aR ed ha)];exact ed
   refine⟨_,rfl,a,_,d,_,_,rfl,au,lT,rc.cl,rc.num,hf,(by show 1<=sizeLine;decide),fun l hl=>?_⟩;have s1:ai H' (upd (upd H' a (XH t.aO.C a C d)) l (.lst [.int v])):=(ai.new ha).trans (ai.new hl);refine o _ nv ms du l (fun b o e n1 n2=>s1 _ _ (kd b o e n1 n2)) (G'.same s1) (F'.same s1) (Hn kd G' (List.append_nil _).symm F' ((ai.new ha).free hl)) ?_;rw[he];exact au
theorem RJ{t:Tx K mg w}{H:Hp}{ga dg la lb lc:Addr}(h1:H la=some (.lst []))(h2:H lb=some (.dT []))(h3:H lc=some (.lst []))(h4:H ga=some (.ins t.aX.C dg (pA (.ref la) (.ref lb) (.ref lc))))(n:la≠lc):bx t H ga dg la lb lc [] [] [] []:=
 ⟨h4,h1,h2,h3,rfl,rfl,fun i nd e=>(by cases e),List.nodup_nil,fun h=>(by cases h),n,⟨rfl,fun m h=>(by cases h),fun i b h=>absurd h (Nat.not_lt_zero _)⟩,Nat.zero_le _,fun nd h=>(by cases h)⟩
theorem O2(t:Tx K mg w):aB P w K mg base (aC P w t.aO.C) 132 t.answers.f t.answers.fd ["calls"] (oX K):=by
 refine t.answers.F.aJ true ra (fun vs H Q E h=>?_) (fun ay A outer s H vs Q E hr h=>?_)
 ·obtain⟨cl,is,ks,rfl,_⟩:=h;rfl
 ·obtain⟨cl,is,ks,rfl,hz,bH,dz,W_,k⟩:=h;have cP:az 2 _:=hr.mono (by decide);have bj:az 5 _:=hr.mono (by decide);refine⟨_,ak (aT 1 ra.nd (Q0 (t.oG.fG rfl) (QN (cs:=t.aO.C) t) cP rfl t.aX.m t.oG.b .nil (ax (cs:=t.aO.C))))<|
   ak (aT 2 ra.nd (fO (t.oH.fG rfl) (R0 (cs:=t.aO.C) t) cP rfl t.bq.m t.oH.b .nil (ax (cs:=t.aO.C)) (ae (pv 0) ag)))<|
   ak (aT 3 ra.nd (dw ag))<|
   ak (jQ eu (lz (c0 (cj (pv 2) t.bq.cl t.ow.me (Oo (cs:=t.aO.C) t) bj t.ow.b .nil (ax (cs:=t.aO.C)))))
    (ak (aT 4 ra.nd (aK t.answer (PH t) hr (ax (cs:=t.aO.C)) (ae (pv 1)<|ae (pv 2) ag)))<|
     ak (bA (eQ PySem.F.plainAttrs_list PySem.F.slot_list_append PySem.F.type_list_append iD (pv 3) (ae (bV dH rfl t.dy rfl (ae (pv 4) ag)) ag)))<|
     ao (bA (eQ PySem.F.plainAttrs_list PySem.F.slot_list_extend PySem.F.type_list_extend oU (pv 3) (ae (pv 4) ag)))))<|
   ao (aD (pv 3)),?_⟩
  intro ga dg wQ W3 bo;refine⟨ga,dg,rfl,au,fun H1 la lb lc k1 tR kq il XY WB WC WD Wy=>⟨rfl,?_⟩⟩;have s1:ai H H1:=fun b o e=>k1 b o (by rw[aj (aR e wQ),aj (aR e W3)];exact e) (aR e wQ);have G1:bx t H1 ga dg la lb lc [] [] [] []:=RJ WB WC WD Wy XY;refine⟨_,rfl,fun fa df AI Lv wa=>?_⟩;refine zj (us:=[.ref cl]) rfl AI Lv wa fun H2 s2 _ Lf=>?_;have G2:=G1.same s2;have F2:cg t H2 fa df cl is 0:=⟨Lf,hz.same (s1.trans s2),bH⟩;refine⟨Nat.zero_le _,fun tl qh=>?_⟩;have s3:ai H2 (upd H2 tl (.lst [])):=ai.new qh;have qp:la≠tl:=aR G2.nodes qh;have nI:lc≠tl:=aR G2.need qh;have X0:tl≠fa:=(aR Lf qh).symm;dsimp only [d6,de,Ends.d9];have Yt:4000000<sizeLine:=by decide
  refine⟨fun m σ H'=> ∃g nv ms needs j gG T v4,σ=[some (.ref cl),some (.ref ga),some (.ref fa),some (.ref tl),v4]/\bx t H' ga dg la lb lc nv ms g needs/\cg t H' fa df cl is j/\H' tl=some (.lst (fw T))/\is.drop j=List.flatMap fQ gG/\(∀k∈gG,g6 k)/\T++hZ g gG=hZ [] ks/\T.length<=250*j/\j<=is.length/\m=is.length-j,
   ⟨_,[],[],[],[],0,ks,[],none,rfl,G2.same s3,F2.same s3,au,W_,dz,rfl,Nat.zero_le _,Nat.zero_le _,rfl⟩,?_⟩
  intro m σ H' hI;refine hide fun _ kG=>?_;obtain⟨g,nv,ms,needs,j,gG,T,v4,rfl,G,F,eT,hd,ip,hT,WR,hj,rfl⟩:=hI;refine kG ?_;refine⟨_,rfl,fa,_,_,rfl,F.obj,rfl,fa,df,cl,is,j,rfl,F,_,rfl,bS (fun z=>?_) fun z=>?_⟩
  ·have LC:j≠is.length:=fun q=>by rw[decide_eq_true q] at z;cases z
   cases gG with
   |nil=>
    exfalso;have hd:is.drop j=[]:=hd;have:=List.drop_eq_nil_iff.mp hd;omega
   |cons kk kr=>
    have hd:is.drop j=(mP kk:Int)::(cH kk++List.flatMap fQ kr):=hd;have Xc:j+1+(cH kk).length<=is.length:=by
     have:=congrArg List.length hd;rw[List.length_drop,List.length_cons,List.length_append] at this;omega
    have fh:is.drop (j+1+(cH kk).length)=List.flatMap fQ kr:=by
     rw[<-List.drop_drop,<-List.drop_drop,hd];show(cH kk++List.flatMap fQ kr).drop _=_;rw[List.drop_left]
    have AH:=RF G.le kk;refine⟨fun σ' H2=> ∃g nv ms needs gG T v4 j',σ'=[some (.ref cl),some (.ref ga),some (.ref fa),some (.ref tl),v4]/\bx t H2 ga dg la lb lc nv ms g needs/\cg t H2 fa df cl is j'/\H2 tl=some (.lst (fw T))/\is.drop j'=List.flatMap fQ gG/\(∀k∈gG,g6 k)/\T++hZ g gG=hZ [] ks/\T.length<=250*j'/\j'<=is.length/\j<j',?_,?_⟩
    ·intro σ' H2 hI;refine hide fun _ kG=>?_;obtain⟨g,nv,ms,needs,gG,T,v4,j',h1,h2,h3,h4,h5,h6,h7,h8,h9,Lo⟩:=hI;refine kG ?_;exact⟨_,by omega,g,nv,ms,needs,j',gG,T,v4,h1,h2,h3,h4,h5,h6,h7,h8,h9,rfl⟩
    refine⟨_,rfl,_,rfl,ga,dg,la,lb,lc,nv,ms,g,needs,fa,df,cl,is,j,kk,_,rfl,ip _ List.mem_cons_self,G,F,hd,?_⟩;intro H4 fH ef du a kd G4 F4 ha ea;have wF:=kd _ _ eT (G.VV eT qp nI) X0;have L4:a≠tl:=fun q=>by rw[q,eT] at ha;cases ha
    generalize hen:VabldlNeutral.encode (Vabldl.step {graph:=g} kk).2=en at*;refine⟨_,rfl,.inl ⟨rfl,_,aA.of wF⟩,_,rfl,a,_,rfl,.inl (aA.of ea),tl,_,_,rfl,rfl,wF,?_,?_⟩
    ·rw[List.length_map];omega
    refine⟨_,rfl,.inl ⟨rfl,_,aA.of au⟩,_,rfl,tl,a,_,_,rfl,rfl,au,(by rw[aj L4];exact ea),?_,?_⟩
    ·rw[List.length_append,List.length_map,List.length_map];show T.length+1+_<=_;omega
    rw[IF];have kp:aH tl H4 (upd H4 tl (.lst ((fw T++[.int ((fw en).length:Int)])++fw en))):=fun b o e n=>by rw[aj n];exact e
    refine⟨_,fH,ef,du,kr,T++((en.length:Int)::en),_,_,rfl,G4.zF wF qp nI kp,F4.zF wF kp,?_,fh,fun k hk=>ip k (List.mem_cons_of_mem _ hk),?_,?_,Xc,by omega⟩
    ·rw[au];show _=some (HO.lst ((T++((en.length:Int)::en)).map V.int));rw[List.map_append,List.length_map,List.append_assoc];rfl
    ·rw[<-hT,List.append_assoc,<-hen];rfl
    ·rw[List.length_append,List.length_cons];omega
  ·have LC:j=is.length:=by
    by_cases q:j=is.length
    ·exact q
    ·rw[decide_eq_false q] at z;cases z
   have hk:gG=[]:=by
    cases gG with
    |nil=>rfl
    |cons kk kr=>
     have hd:is.drop j=(mP kk:Int)::(cH kk++List.flatMap fQ kr):=hd;rw[LC,List.drop_length] at hd;cases hd
   rw[hk] at hT;have hT:T++[]=hZ [] ks:=hT;rw[List.append_nil] at hT;exact⟨_,rfl,k H' tl (by rw[<-hT];exact eT)⟩
end Bp
namespace Bp
open Bq
variable{K:FG}{mg:Str->Option Value}{w:World}{P:Program}{base:Heap}{cs:Addr}
theorem TR{r x s:List Int}(h:PyFlat.row r=some (x,s)):r=(x.length:Int)::(x++s):=by
 cases r with
 |nil=>cases h
 |cons n r=>
  have h:(if 0<=n/\n.toNat<=r.length then some (r.take n.toNat,r.drop n.toNat) else none)=some (x,s):=h
  by_cases hc:0<=n/\n.toNat<=r.length
  ·rw[if_pos hc] at h;cases h;rw[List.take_append_drop,List.length_take,Nat.min_eq_left hc.2,Int.toNat_of_nonneg hc.1]
  ·rw[if_neg hc] at h;cases h
theorem y_: ∀(k:Nat)(r:List Int)(xs:List (List Int))(t:List Int),PyFlat.rows k r=some (xs,t)->xs.length=k/\r=xs.flatMap (fun x=>(x.length:Int)::x)++t
 |0,r,xs,t,h=>by cases h;exact⟨rfl,rfl⟩
 |k+1,r,xs,t,h=>by
  have h:(match PyFlat.row r with |none=>none |some (x,s)=>match PyFlat.rows k s with |none=>none |some (xs,t)=>some (x::xs,t))=some (xs,t):=h;cases e:PyFlat.row r with
  |none=>rw[e] at h;cases h
  |some p=>
   obtain⟨x,s⟩:=p;rw[e] at h;have h:(match PyFlat.rows k s with |none=>none |some (xs,t)=>some (x::xs,t))=some (xs,t):=h;cases e2:PyFlat.rows k s with
   |none=>rw[e2] at h;cases h
   |some p=>
    obtain⟨ys,t'⟩:=p;rw[e2] at h;cases h;obtain⟨h1,h2⟩:=y_ k s ys t e2;refine⟨by rw[List.length_cons,h1],?_⟩;rw[TR e,h2];show _=((x.length:Int)::x++ys.flatMap _)++t;rw[List.append_assoc];rfl
theorem gR{l:List Int}(h:(l.all fun(z:Int)=>VabldlNeutral.natural z 8)=true):(VabldlNeutral.text l).map (fun(c:Nat)=>(c:Int))=l/\NeutralIO.bytes l=true:=by
 rw[List.all_eq_true] at h;have hz: ∀z∈l,0<=z/\z<256:=fun z hz=>by
  have:=h z hz;unfold VabldlNeutral.natural at this;rw[Bool.and_eq_true,decide_eq_true_eq,decide_eq_true_eq] at this;exact this
 constructor
 ·unfold VabldlNeutral.text;rw[List.map_map];refine(List.map_congr_left (g:=id) fun z hm=>?_).trans (List.map_id _);exact Int.toNat_of_nonneg (hz z hm).1
 ·unfold NeutralIO.bytes;rw[List.all_eq_true];intro z hm;have:=hz z hm;rw[Bool.and_eq_true,decide_eq_true_eq,decide_eq_true_eq];omega
theorem iG{l:List Int}(h:(l.all fun(z:Int)=>VabldlNeutral.natural z 8)=true):br (VabldlNeutral.text l)=(l.length:Int)::l:=by
 unfold br;rw[(gR h).1]
 congr 1
 unfold VabldlNeutral.text;rw[List.length_map]
structure SR(c:List (List Int))(p:List Int)(k:Vabldl.Call):Prop where
 nums:p=fQ k
 X3:VabldlNeutral.callOf c=some k
 small:g6 k
theorem Rw{p:Int}{r t:List Int}{c:List (List Int)}(h:PyFlat.call PyVabldl.shape (p::r)=some (c,t))(ha:VabldlNeutral.asked1 (PyVabldl.whole c)=true): ∃k,SR (PyVabldl.whole c) ((p::r).take ((p::r).length-t.length)) k/\p::r=fQ k++t:=by
 have h:(match PyVabldl.shape p with
  |none=>none
  |some (n,k)=>if r.length<n then none else match PyFlat.rows k (r.drop n) with
   |none=>none
   |some (xs,t)=>some ((p::r.take n)::xs,t))=some (c,t):=h
 suffices q: ∃k,VabldlNeutral.callOf (PyVabldl.whole c)=some k/\g6 k/\p::r=fQ k++t by
  obtain⟨k,h1,h2,h3⟩:=q;refine⟨k,⟨?_,h1,h2⟩,h3⟩;rw[h3,List.length_append,Nat.add_sub_cancel,List.take_left]
 have zM: ∀{s:List Int}{xs:List (List Int)},PyFlat.rows 1 s=some (xs,t)-> ∃a,xs=[a]/\s=(a.length:Int)::(a++t):=fun {s xs} e=>by
  obtain⟨h1,h2⟩:=y_ _ _ _ _ e
  match xs,h1 with
  |[a],_=>exact⟨a,rfl,by rw[h2];simp⟩
 have v9: ∀{s:List Int}{xs:List (List Int)},PyFlat.rows 2 s=some (xs,t)-> ∃a b,xs=[a,b]/\s=(a.length:Int)::(a++((b.length:Int)::(b++t))):=fun {s xs} e=>by
  obtain⟨h1,h2⟩:=y_ _ _ _ _ e
  match xs,h1 with
  |[a,b],_=>exact⟨a,b,rfl,by rw[h2];simp⟩
 have zL: ∀{s:List Int}{xs:List (List Int)},PyFlat.rows 0 s=some (xs,t)->xs=[]/\s=t:=fun {s xs} e=>by cases e;exact⟨rfl,rfl⟩
 have two: ∀{r:List Int},¬r.length<2-> ∃a b s,r=a::b::s:=fun {r} hl=>by
  match r,hl with
  |a::b::s,_=>exact⟨a,b,s,rfl⟩
  |[],hl=>exact absurd (Nat.zero_lt_succ 1) hl
  |[a],hl=>exact absurd (Nat.lt_succ_self 1) hl
 have one: ∀{r:List Int},¬r.length<1-> ∃a s,r=a::s:=fun {r} hl=>by
  match r,hl with
  |a::s,_=>exact⟨a,s,rfl⟩
  |[],hl=>exact absurd (Nat.zero_lt_succ 0) hl
 have go: ∀(n k:Nat),PyVabldl.shape p=some (n,k)-> ¬r.length<n/\ ∃xs,PyFlat.rows k (r.drop n)=some (xs,t)/\c=(p::r.take n)::xs:=fun n k e=>by
  rw[e] at h;have h:(if r.length<n then none else match PyFlat.rows k (r.drop n) with |none=>none |some (xs,t)=>some ((p::r.take n)::xs,t))=some (c,t):=h
  by_cases hl:r.length<n
  ·rw[if_pos hl] at h;cases h
  ·rw[if_neg hl] at h;cases e2:PyFlat.rows k (r.drop n) with
   |none=>rw[e2] at h;cases h
   |some q=>
    obtain⟨xs,t'⟩:=q;rw[e2] at h;cases h;exact⟨hl,xs,rfl,rfl⟩
 by_cases h0:p=0
 ·subst h0;obtain⟨hl,xs,e,rfl⟩:=go 0 2 rfl;obtain⟨a,b,rfl,hr⟩:=v9 e;have ha:(((a.all fun(z:Int)=>VabldlNeutral.natural z 8)&&decide (a.length<=100))&&((b.all fun(z:Int)=>VabldlNeutral.natural z 8)&&decide (b.length<=100)))=true:=ha;simp only [Bool.and_eq_true,decide_eq_true_eq] at ha;obtain⟨⟨a1,a2⟩,b1,b2⟩:=ha;refine⟨.node (VabldlNeutral.text a) (VabldlNeutral.text b),?_,⟨?_,?_⟩,?_⟩
  ·show(if(NeutralIO.bytes a&&NeutralIO.bytes b)=true then _ else _)=_;rw[(gR a1).2,(gR b1).2];rfl
  ·unfold VabldlNeutral.text;rw[List.length_map];omega
  ·unfold VabldlNeutral.text;rw[List.length_map];omega
  ·show 0::r=(0::(br _++br _))++t;rw[iG a1,iG b1,show r=_ from hr];simp
 ·by_cases h1:p=1
  ·subst h1;obtain⟨hl,xs,e,rfl⟩:=go 2 0 rfl;obtain⟨a,b,s,rfl⟩:=two hl;obtain⟨rfl,hs⟩:=zL e;have hs:s=t:=hs;subst hs;exact⟨.edge a b,rfl,trivial,rfl⟩
  ·by_cases h2:p=2
   ·subst h2;obtain⟨hl,xs,e,rfl⟩:=go 2 0 rfl;obtain⟨a,b,s,rfl⟩:=two hl;obtain⟨rfl,hs⟩:=zL e;have hs:s=t:=hs;subst hs;exact⟨.cut a b,rfl,trivial,rfl⟩
   ·by_cases h3:p=3
    ·subst h3;obtain⟨hl,xs,e,rfl⟩:=go 1 2 rfl;obtain⟨i,s,rfl⟩:=one hl;obtain⟨a,b,rfl,hr⟩:=v9 e;have hr:s=_:=hr;have ha:(VabldlNeutral.whole60 i&&(((a.all fun(z:Int)=>VabldlNeutral.natural z 8)&&decide (a.length<=100))&&((b.all fun(z:Int)=>VabldlNeutral.natural z 8)&&decide (b.length<=100))))=true:=ha;simp only [Bool.and_eq_true,decide_eq_true_eq] at ha;obtain⟨_,⟨a1,a2⟩,b1,b2⟩:=ha;refine⟨.mark i (VabldlNeutral.text a) (VabldlNeutral.text b),?_,⟨?_,?_⟩,?_⟩
     ·show(if(NeutralIO.bytes a&&NeutralIO.bytes b)=true then _ else _)=_;rw[(gR a1).2,(gR b1).2];rfl
     ·unfold VabldlNeutral.text;rw[List.length_map];omega
     ·unfold VabldlNeutral.text;rw[List.length_map];omega
     ·show 3::i::s=(3::i::(br _++br _))++t;rw[iG a1,iG b1,hr];simp
    ·by_cases h4:p=4
     ·subst h4;obtain⟨hl,xs,e,rfl⟩:=go 0 1 rfl;obtain⟨a,rfl,hr⟩:=zM e;have ha:((a.all fun(z:Int)=>VabldlNeutral.natural z 8)&&decide (a.length<=2000))=true:=ha;simp only [Bool.and_eq_true,decide_eq_true_eq] at ha;refine⟨.query (VabldlNeutral.text a),?_,trivial,?_⟩
      ·show(if NeutralIO.bytes a=true then _ else _)=_;rw[(gR ha.1).2];rfl
      ·show 4::r=(4::br _)++t;rw[iG ha.1,show r=_ from hr];simp
     ·by_cases h5:p=5
      ·subst h5;obtain⟨hl,xs,e,rfl⟩:=go 0 1 rfl;obtain⟨a,rfl,hr⟩:=zM e;have ha:((a.all fun(z:Int)=>VabldlNeutral.natural z 8)&&decide (a.length<=2000))=true:=ha;simp only [Bool.and_eq_true,decide_eq_true_eq] at ha;refine⟨.where_ (VabldlNeutral.text a),?_,trivial,?_⟩
       ·show(if NeutralIO.bytes a=true then _ else _)=_;rw[(gR ha.1).2];rfl
       ·show 5::r=(5::br _)++t;rw[iG ha.1,show r=_ from hr];simp
      ·by_cases h6:p=6
       ·subst h6;obtain⟨hl,xs,e,rfl⟩:=go 0 1 rfl;obtain⟨a,rfl,hr⟩:=zM e;have ha:((a.all fun(z:Int)=>VabldlNeutral.natural z 8)&&decide (a.length<=2000))=true:=ha;simp only [Bool.and_eq_true,decide_eq_true_eq] at ha;refine⟨.plain (VabldlNeutral.text a),?_,trivial,?_⟩
        ·show(if NeutralIO.bytes a=true then _ else _)=_;rw[(gR ha.1).2];rfl
        ·show 6::r=(6::br _)++t;rw[iG ha.1,show r=_ from hr];simp
       ·by_cases h7:p=7
        ·subst h7;obtain⟨hl,xs,e,rfl⟩:=go 0 2 rfl;obtain⟨a,b,rfl,hr⟩:=v9 e;have ha:(((a.all fun(z:Int)=>VabldlNeutral.natural z 8)&&decide (a.length<=2000))&&((b.all fun(z:Int)=>VabldlNeutral.natural z 8)&&decide (b.length<=2000)))=true:=ha;simp only [Bool.and_eq_true,decide_eq_true_eq] at ha;obtain⟨⟨a1,a2⟩,b1,b2⟩:=ha;refine⟨.path (VabldlNeutral.text a) (VabldlNeutral.text b),?_,trivial,?_⟩
         ·show(if(NeutralIO.bytes a&&NeutralIO.bytes b)=true then _ else _)=_;rw[(gR a1).2,(gR b1).2];rfl
         ·show 7::r=(7::(br _++br _))++t;rw[iG a1,iG b1,show r=_ from hr];simp
        ·by_cases h8:p=8
         ·subst h8;obtain⟨hl,xs,e,rfl⟩:=go 0 2 rfl;obtain⟨a,b,rfl,hr⟩:=v9 e;have ha:(((a.all fun(z:Int)=>VabldlNeutral.natural z 8)&&decide (a.length<=2000))&&((b.all fun(z:Int)=>VabldlNeutral.natural z 8)&&decide (b.length<=2000)))=true:=ha;simp only [Bool.and_eq_true,decide_eq_true_eq] at ha;obtain⟨⟨a1,a2⟩,b1,b2⟩:=ha;refine⟨.alike (VabldlNeutral.text a) (VabldlNeutral.text b),?_,trivial,?_⟩
          ·show(if(NeutralIO.bytes a&&NeutralIO.bytes b)=true then _ else _)=_;rw[(gR a1).2,(gR b1).2];rfl
          ·show 8::r=(8::(br _++br _))++t;rw[iG a1,iG b1,show r=_ from hr];simp
         ·by_cases h9:p=9
          ·subst h9;obtain⟨hl,xs,e,rfl⟩:=go 2 0 rfl;obtain⟨a,b,s,rfl⟩:=two hl;obtain⟨rfl,hs⟩:=zL e;have hs:s=t:=hs;subst hs;exact⟨.far a b,rfl,trivial,rfl⟩
          ·exfalso;have:PyVabldl.shape p=none:=by
            unfold PyVabldl.shape;rw[if_neg h0,if_neg h1,if_neg h2,if_neg h3,if_neg h4,if_neg h5,if_neg h6,if_neg h7,if_neg h8,if_neg h9]
           rw[this] at h;cases h
theorem FT: ∀(f:Nat)(l:List Int)(cs:List (List (List Int))),PyFlat.calls PyVabldl.shape f l=some cs->((cs.map PyVabldl.whole).all VabldlNeutral.asked1)=true->
  ∃ks,l=List.flatMap fQ ks/\(∀k∈ks,g6 k)/\ ∀g:VG,PyFlat.told (PyFlat.played VabldlNeutral.step {graph:=g} (cs.map PyVabldl.whole))=hZ g ks
 |0,[],cs,h,_=>by
  have h:some []=some cs:=h;cases h;exact⟨[],rfl,fun k hk=>(by cases hk),fun g=>rfl⟩
 |f+1,[],cs,h,_=>by
  have h:some []=some cs:=h;cases h;exact⟨[],rfl,fun k hk=>(by cases hk),fun g=>rfl⟩
 |0,p::r,cs,h,_=>by cases h
 |f+1,p::r,cs,h,ha=>by
  have h:(match PyFlat.call PyVabldl.shape (p::r) with |none=>none |some (c,t)=>match PyFlat.calls PyVabldl.shape f t with |none=>none |some cs=>some (c::cs))=some cs:=h;cases e1:PyFlat.call PyVabldl.shape (p::r) with
  |none=>rw[e1] at h;cases h
  |some q=>
   obtain⟨c,t⟩:=q;rw[e1] at h;have h:(match PyFlat.calls PyVabldl.shape f t with |none=>none |some cs=>some (c::cs))=some cs:=h;cases e2:PyFlat.calls PyVabldl.shape f t with
   |none=>rw[e2] at h;cases h
   |some As=>
    rw[e2] at h;cases h;rw[List.map_cons,List.all_cons,Bool.and_eq_true] at ha;obtain⟨k,hk,hn⟩:=Rw e1 ha.1;obtain⟨ks,h1,h2,h3⟩:=FT f t As e2 ha.2;refine⟨k::ks,?_,fun x hx=>?_,fun g=>?_⟩
    ·rw[hn,h1];rfl
    ·rcases List.mem_cons.mp hx with rfl |hx
     ·exact hk.small
     ·exact h2 x hx
    ·have es:VabldlNeutral.step {graph:=g} (PyVabldl.whole c)=((Vabldl.step {graph:=g} k).1,VabldlNeutral.encode (Vabldl.step {graph:=g} k).2):=by
      unfold VabldlNeutral.step;rw[hk.X3]
     have e3:=h3 (Vabldl.step {graph:=g} k).1.graph;show PyFlat.told ((VabldlNeutral.step {graph:=g} (PyVabldl.whole c)).2::PyFlat.played VabldlNeutral.step (VabldlNeutral.step {graph:=g} (PyVabldl.whole c)).1 (As.map PyVabldl.whole))=_;rw[es];unfold PyFlat.told at e3 ⊢;rw[List.flatMap_cons];show((VabldlNeutral.encode (Vabldl.step {graph:=g} k).2).length:Int)::(VabldlNeutral.encode (Vabldl.step {graph:=g} k).2++_)=_;rw[show(PyFlat.played VabldlNeutral.step (Vabldl.step {graph:=g} k).1 (As.map PyVabldl.whole)).flatMap (fun a=>(a.length:Int)::a)=hZ (Vabldl.step {graph:=g} k).1.graph ks from e3];rfl
theorem P_{l:List Int}(h:PyVabldl.answers_asked l=true): ∃ks,l=List.flatMap fQ ks/\(∀k∈ks,g6 k)/\PyVabldl.answers l=hZ [] ks:=by
 unfold PyVabldl.answers_asked PyVabldl.calls at h;unfold PyVabldl.answers PyVabldl.calls;cases e:PyFlat.calls PyVabldl.shape l.length l with
 |none=>rw[e] at h;cases h
 |some cs=>
  rw[e] at h;have h:(PyFlat.atMost 400 (cs.map PyVabldl.whole)&&VabldlNeutral.asked (cs.map PyVabldl.whole))=true:=h;rw[Bool.and_eq_true] at h;have h2:=h.2;unfold VabldlNeutral.asked at h2;rw[Bool.and_eq_true] at h2;obtain⟨ks,q1,q2,q3⟩:=FT _ _ _ e h2.1;exact⟨ks,q1,q2,q3 []⟩
end Bp
namespace Bp
open PySem PySem.Spec PyProof.Rows L2 Bq
variable{K:FG}{mg:Str->Option Value}{w:World}{P:Program}{base:Heap}{cs:Addr}
def Bn(x q:Str)(st:Stmt)(ps:List Str):Prop:= ∀(kV dX pm:Value)(an:Option Addr)(ay ct:Value)(us:List Value),us.length=ps.length->bindArgs (PySem.W.fnOf x q (mC st) (lj st) (aG st) .none kV dX pm an ay ct) ⟨us,[]⟩=pure (ps.zip us)
section
variable{K:FG}{mg:Str->Option Value}{h:Heap}{w:World}{C f:Addr}{x q:Str}{st:Stmt}{ps fs:List Str}{oc kV dX pm ay ct:Value}{od an:Option Addr}{iw:Array (Option Value)}
def GF.of(X:K.In h)(G:h.Ns mainGlobals mg)(l:K.lookup f=some ⟨oc,od,.func (PySem.W.fnOf x x (mC st) (lj st) (aG st) .none kV dX pm an ay ct),iw⟩:=by first |k_is |rfl)(c:PySem.W.codeIn K ay x=true:=by first |k_is |rfl)(k:PySem.W.keepIn K (.ref f)=true:=by first |k_is |rfl)(a:PySem.W.nsIn K mainGlobals x=some (some (.ref f)):=by first |k_is |rfl)(b:Bn x x st ps:=by(intro _ _ _ _ _ _ us hl;first |(obtain⟨a,rfl⟩:=Bp.ke hl;rfl) |(obtain⟨a,b,rfl⟩:=Bp.sF hl;rfl) |(obtain⟨a,b,c,rfl⟩:=Bp.wc hl;rfl) |(obtain⟨a,b,c,d,rfl⟩:=Bp.sG hl;rfl) |(obtain⟨a,b,c,d,e,rfl⟩:=Bp.KC hl;rfl))):GF K mg x st ps:=
 ⟨f,_,vH l c k,(vH l c k).binds b,PySem.W.mg_of X G a⟩
def MF.of(l:K.lookup f=some ⟨oc,od,.func (PySem.W.fnOf x q (mC st) (lj st) (aG st) .none kV dX pm an ay ct),iw⟩:=by first |k_is |rfl)(c:PySem.W.codeIn K ay q=true:=by first |k_is |rfl)(k:PySem.W.keepIn K (.ref f)=true:=by first |k_is |rfl)(a:PySem.W.findIn K (.ref C) x=some (some (.ref f)):=by first |k_is |rfl)(i:PySem.W.isFn K (.ref f)=true:=by first |k_is |rfl)(b:Bn x q st ps:=by(intro _ _ _ _ _ _ us hl;first |(obtain⟨a,rfl⟩:=Bp.ke hl;rfl) |(obtain⟨a,b,rfl⟩:=Bp.sF hl;rfl) |(obtain⟨a,b,c,rfl⟩:=Bp.wc hl;rfl) |(obtain⟨a,b,c,d,rfl⟩:=Bp.sG hl;rfl) |(obtain⟨a,b,c,d,e,rfl⟩:=Bp.KC hl;rfl))):MF K C x q st ps:=
 ⟨f,_,vH l c k,(vH l c k).binds b,⟨a,i,k⟩⟩
theorem jn: ∀f∈([]:List Str),cV K C f:=fun f h=>by cases h
theorem cY(r: ∀f∈fs,cV K C f)(a:PySem.W.findIn K (.ref C) x=some none:=by first |k_is |rfl): ∀f∈x::fs,cV K C f:=fun f h=>by
 rcases List.mem_cons.mp h with rfl |h
 ·exact a
 ·exact r f h
def CF.of(X:K.In h)(G:h.Ns mainGlobals mg)(na: ∀f∈fs,cV K C f)(a:PySem.W.nsIn K mainGlobals x=some (some (.ref C)):=by first |k_is |rfl)(a1:PySem.W.plainGet K C Str.empty=true:=by first |k_is |rfl)(a2:PySem.W.hasDictIn K C=true:=by first |k_is |rfl)(a3:PySem.W.plainOver K C=true:=by first |k_is |rfl)(a4:PySem.W.findIn K (.ref C) "__setattr__"=some (some (.builtin "object.__setattr__")):=by first |k_is |rfl)(a5:PySem.W.makesIn K C=true:=by first |k_is |rfl)(a6:PySem.W.keepIn K (.ref C)=true:=by first |k_is |rfl)
  (b1:PySem.W.findIn K (.ref C) "__class__"=some (some (.builtin "object.__class__")):=by first |k_is |rfl) (b2:PySem.W.specialIn K (.builtin "object.__class__") "__get__"=some (some (.builtin "getset_descriptor.__get__")):=by first |k_is |rfl) (b3:PySem.W.takesIn K (.builtin "object.__class__")=some true:=by first |k_is |rfl) (b4:PySem.W.mroIn K C (.type "object")=some true:=by first |k_is |rfl):CF K mg x fs:=
 ⟨C,PySem.W.mg_of X G a,⟨a1,a2,a3,a4⟩,a5,a6,na,b1,b2,b3,b4⟩
def XF.of(X:K.In h)(G:h.Ns mainGlobals mg)(a:PySem.W.nsIn K mainGlobals x=some (some (.ref C)):=by first |k_is |rfl)(a1:Bx.jv K C=true:=by first |k_is |rfl)(a2:PySem.W.findIn K (.ref C) "__getattribute__"=some (some (.builtin "BaseException.__getattribute__")):=by first |k_is |rfl)(a3:PySem.W.findIn K (.ref C) "__getattr__"=some none:=by first |k_is |rfl)(a4:PySem.W.findIn K (.ref C) "__setattr__"=some (some (.builtin "object.__setattr__")):=by first |k_is |rfl)(a5:PySem.W.keepIn K (.ref C)=true:=by first |k_is |rfl)
  (n1:PySem.W.findIn K (.ref C) "number"=some none:=by first |k_is |rfl) (n2:PySem.W.findIn K (.ref C) "position"=some none:=by first |k_is |rfl):XF K mg x:=
 ⟨C,PySem.W.mg_of X G a,⟨a1,a2,a3,a4,a5⟩,n1,n2⟩
theorem g7{a:Addr}{aq:Array Value}{n:Nat}{xs:List V}(l:K.lookup a=some ⟨.type "tuple",none,.seq aq n, #[]⟩)(hs:aq.size<=10)(hv:Vals xs aq.toList)(H:Hp):bu K H a xs:=
 .inr ⟨_,aq,n,l,rfl,rfl,Nat.le_trans hs (by decide),hv⟩
def JK(w:World)(e:DictEntry)(p:Key×V):Prop:=mV p.1 e.key=true/\e.hash=KA w p.1/\RelV p.2 e.val
theorem RG{P:Program}{es:List DictEntry}{af:List (Key×V)}(hp:Paired (JK w) es af): ∃vs,KV af vs/\Pairs (dJ P w) es vs/\vs.map (·.1)=af.map (·.1)/\ ∀e∈es,∃k,(dJ P w).is k e.key=true/\e.hash=(dJ P w).hash k:=by
 induction hp with
 |nil=>exact⟨[],.nil,.nil,rfl,fun e h=>by cases h⟩
 | @cons e p es af h _ ih=>
  obtain⟨vs,h1,h2,h3,h4⟩:=ih;refine⟨(p.1,e.val)::vs,.cons ⟨rfl,h.2.2⟩ h1,.cons h.1 rfl h2,by rw[List.map_cons,List.map_cons,h3],fun e' h'=>?_⟩;rcases List.mem_cons.mp h' with rfl |h'
  ·exact⟨p.1,h.1,h.2.1⟩
  ·exact h4 e' h'
theorem JY{a:Addr}{es:Array DictEntry}{n:Nat}{af:List (Key×V)}(l:K.lookup a=some ⟨.type "dict",none,.dict es n, #[]⟩)(hp:Paired (JK w) es.toList af)(nd:(af.map (·.1)).Nodup)(sm:(a==sysModules)=false)(sz:af.length<=1000):KD K w a af:=by
 refine⟨fun P h X=>?_,sm,sz⟩;obtain⟨vs,h1,h2,h3,h4⟩:=RG (P:=P) hp;exact⟨vs,h1,_,es,n,X _ _ l,⟨rfl,rfl,rfl⟩,rfl,fun e he=>h4 e (Array.mem_toList_iff.mpr he),h2,by rw[h3];exact nd⟩
theorem Ut{H:Hp}{a:Addr}{xs:List V}(hO:mO H)(hs:aA K H a xs):Fz K H a xs:=by
 rcases hs with(e |⟨o,e⟩) |e
 ·rcases hO a with z |⟨ob,u,z⟩
  ·rw[e] at z;cases z
  ·rw[e] at z;cases z
 ·exact .inl ⟨o,e⟩
 ·exact .inr fun H'=> .inr e
theorem fin{P:Program}{fa cs:Addr}(X:K.In h)(G:h.Ns mainGlobals mg)(AI:mg "answers"=some (.ref fa))(T: ∃t:Tx K mg w,t.aO.C=cs):
  ∃fd:FuncData,(∀(s:Shared)(us:List Value),us.length=(["calls"]:List Str).length->BindsTo s fd ⟨us,[]⟩ ((["calls"]:List Str).zip us))/\ ∀base:Heap,K.In base->base.Ns mainGlobals mg->aB P w K mg base (aC P w cs) 132 fa fd ["calls"] (oX K):=by
 obtain⟨t,rfl⟩:=T;have e:=AI.symm.trans t.answers.m;cases e;refine⟨t.answers.fd,fun s us hu=>?_,fun base _ _=>O2 t⟩;obtain⟨oc,od,kV,dX,pm,an,ay,ct,iw,e,lk,jA⟩:=t.answers.F.ex;rw[e];obtain⟨a,rfl⟩:=ke hu;exact .of_eq rfl
theorem Up{P:Program}{cs:Addr}(H:Hp)(s:Shared)(e:Value)(s':Shared)(q:aC P w cs [] H s (fun _ _ _=>False) e s'):False:=by
 obtain⟨_,_,_,_,_,_,_,_,_,_,q⟩:=q;exact q
theorem TY{H:Hp}{v:V}{asked:List Int->Bool}{f:List Int->List Int}(hf: ∀l,asked l=true-> ∃ks,l=List.flatMap fQ ks/\(∀k∈ks,g6 k)/\f l=hZ [] ks){l:List Int}{Q:VK}{E:XK}(hO:mO H)(hw:l.length<=16000)(ha:asked l=true){a:Addr}(hv:v= .ref a)(hs:aA K H a (l.map V.int))(hQ: ∀H' p,H' p=some (.lst ((f l).map V.int))->Q (.ref p) H'):oX K [v] H Q E:=by
 obtain⟨ks,q1,q2,q3⟩:=hf l ha;exact⟨a,l,ks,by rw[hv],Ut hO hs,hw,q2,q1,fun H' p hp=>hQ H' p (by rw[q3];exact hp)⟩
open PySem.W (Codec)
theorem TZ{H:Hp}{xs:List V}(asked:List Int->Bool)(f:List Int->List Int)(hf: ∀l,asked l=true-> ∃ks,l=List.flatMap fQ ks/\(∀k∈ks,g6 k)/\f l=hZ [] ks)(a:Codec.denoteAll PySem.Challenge.fa_buildqueries_s01_answers)(hO:mO H)(qk:Codec.withinAll PySem.Challenge.fa_buildqueries_s01_answers a=true)(z8:Codec.app PySem.Challenge.fa_buildqueries_s01_answers asked a=true)(hx:g_ K H xs (Codec.encAll PySem.Challenge.fa_buildqueries_s01_answers a)):
  oX K xs H (fun v H'=>Dw K H' v (Codec.enc PySem.Challenge.fr_buildqueries_s01_answers (Codec.app PySem.Challenge.fa_buildqueries_s01_answers f a))) fun _ _ _=>False:=by
 cases hx with
 |cons h1 h2=>
  cases h2;cases h1 with
  |lst hs ha=>
   have e:=Hu a.1 _ ha;subst e;have q:((Codec.inLen 0 16000 a.1&&a.1.all (Codec.inInt (-1000000000000000000) 1000000000000000000))&&true)=true:=qk;rw[Bool.and_eq_true,Bool.and_eq_true] at q;exact TY hf hO (Codec.inNat_iff.mp q.1.1).2 z8 rfl hs fun H' p hp=> .lst (aA.of hp) (Hl _)
theorem cF{n:Str}{v:Value}(X:K.In h)(G:h.Ns mainGlobals mg)(e:PySem.W.nsIn K mainGlobals n=some (some v):=by first |k_is |rfl):mg n=some v:=PySem.W.mg_of X G e
theorem gH{n:Str}(X:K.In h)(G:h.Ns mainGlobals mg)(e:PySem.W.nsIn K mainGlobals n=some none:=by first |k_is |rfl):mg n=none:=PySem.W.mg_none_of X G e
end
end Bp
open PySem PySem.W PyProof.Rows
set_option maxHeartbeats 0 in
theorem PySem.Challenge.cw_buildqueries_s01_answers_holds : PySem.Challenge.rw_buildqueries_s01_answers.Holds := by
 refine Bp.hd.2 fun _=>?_
 delta Bp.hd
 dsimp only
 refine L2.P7 (r:=PySem.Challenge.rw_buildqueries_s01_answers) (k:=132) (CX:=fun w=>L2.aC PySem.Challenge.rw_buildqueries_s01_answers.prog w 569) (ps:=["calls"]) (sp:=fun w=>Bp.oX (Bp.hd.heap_1 w.params)) (by decide +kernel) rfl rfl ⟨fun _=>rfl,by decide,by decide⟩ (fun w h Y=>PySem.W.kIn_of Y) ?F ?S (fun w=>Bp.Up)
 case F=>
  intro w mg fa h Y KX G AQ
  refine Bp.fin KX G AQ ⟨{
  cq:=Bp.CF.of (C:=31) KX G (Bp.cY Bp.jn),
  oE:=Bp.MF.of (C:=31) (f:=28),
  b_:=Bp.CF.of (C:=52) KX G (Bp.cY Bp.jn),
  oy:=Bp.MF.of (C:=52) (f:=49),
  bF:=Bp.CF.of (C:=73) KX G (Bp.cY (Bp.cY (Bp.cY Bp.jn))),
  oQ:=Bp.MF.of (C:=73) (f:=70),
  bO:=Bp.CF.of (C:=94) KX G (Bp.cY (Bp.cY Bp.jn)),
  oR:=Bp.MF.of (C:=94) (f:=91),
  aU:=Bp.CF.of (C:=115) KX G (Bp.cY (Bp.cY (Bp.cY (Bp.cY Bp.jn)))),
  kW:=Bp.MF.of (C:=115) (f:=112),
  members:=Bp.GF.of (f:=124) KX G,
  mE:=Bp.GF.of (f:=131) KX G,
  pf:=Bp.GF.of (f:=138) KX G,
  oK:=Bp.GF.of (f:=145) KX G,
  turned:=Bp.GF.of (f:=150) KX G,
  reached:=Bp.GF.of (f:=157) KX G,
  qJ:=Bp.GF.of (f:=164) KX G,
  mj:=Bp.GF.of (f:=171) KX G,
  holds:=Bp.GF.of (f:=176) KX G,
  fits:=Bp.GF.of (f:=183) KX G,
  leaves:=Bp.GF.of (f:=188) KX G,
  between:=Bp.GF.of (f:=195) KX G,
  qL:=Bp.GF.of (f:=200) KX G,
  joined:=Bp.GF.of (f:=207) KX G,
  qU:=Bp.GF.of (f:=214) KX G,
  qP:=Bp.GF.of (f:=221) KX G,
  gc:=Bp.GF.of (f:=226) KX G,
  CZ:=⟨_,Bp.cF KX G⟩,
  rY:=⟨_,Bp.cF KX G⟩,
  oC:=Bp.GF.of (f:=233) KX G,
  pq:=Bp.GF.of (f:=238) KX G,
  spelled:=Bp.GF.of (f:=243) KX G,
  my:=Bp.GF.of (f:=250) KX G,
  quoted:=Bp.GF.of (f:=257) KX G,
  qQ:=Bp.GF.of (f:=264) KX G,
  qR:=Bp.GF.of (f:=271) KX G,
  plain_sum:=Bp.GF.of (f:=278) KX G,
  rA:=Bp.GF.of (f:=285) KX G,
  qS:=Bp.GF.of (f:=290) KX G,
  qZ:=Bp.GF.of (f:=297) KX G,
  iC:=Bp.GF.of (f:=304) KX G,
  cG:=Bp.XF.of (C:=321) KX G,
  f_:=Bp.MF.of (C:=321) (f:=318),
  iy:=Bp.XF.of (C:=341) KX G,
  n9:=Bp.MF.of (C:=341) (f:=338),
  kQ:=Bp.XF.of (C:=360) KX G,
  n0:=Bp.MF.of (C:=360) (f:=357),
  gM:=Bp.XF.of (C:=379) KX G,
  kJ:=Bp.MF.of (C:=379) (f:=376),
  eX:=Bp.XF.of (C:=398) KX G,
  n6:=Bp.MF.of (C:=398) (f:=395),
  kR:=Bp.XF.of (C:=417) KX G,
  n4:=Bp.MF.of (C:=417) (f:=414),
  dG:=Bp.XF.of (C:=436) KX G,
  nV:=Bp.MF.of (C:=436) (f:=433),
  eg:=Bp.XF.of (C:=455) KX G,
  ja:=Bp.MF.of (C:=455) (f:=452),
  iB:=Bp.XF.of (C:=474) KX G,
  ot:=Bp.MF.of (C:=474) (f:=471),
  dq:=Bp.XF.of (C:=493) KX G,
  gL:=Bp.MF.of (C:=493) (f:=490),
  eN:=Bp.XF.of (C:=512) KX G,
  gK:=Bp.MF.of (C:=512) (f:=509),
  iA:=Bp.XF.of (C:=531) KX G,
  oh:=Bp.MF.of (C:=531) (f:=528),
  fK:=Bp.XF.of (C:=550) KX G,
  nW:=Bp.MF.of (C:=550) (f:=547),
  aO:=Bp.XF.of (C:=569) KX G,
  kI:=Bp.MF.of (C:=569) (f:=566),
  F5:=⟨_,Bp.cF KX G⟩,
  yL:=⟨_,Bp.cF KX G⟩,
  yM:=⟨_,Bp.cF KX G⟩,
  yJ:=⟨_,Bp.cF KX G⟩,
  yK:=⟨_,Bp.cF KX G⟩,
  Hx:=⟨_,Bp.cF KX G⟩,
  Hw:=⟨572,Bp.cF KX G,Bp.g7 (by first |k_is |rfl) (by decide) (by exact(.cons ⟨_,rfl⟩ (.cons ⟨_,rfl⟩ (.cons ⟨_,rfl⟩ (.cons ⟨_,rfl⟩ .nil)))))⟩,
  C0:=⟨_,Bp.cF KX G⟩,
  Cv:=⟨_,Bp.cF KX G⟩,
  ba:=Bp.CF.of (C:=590) KX G (Bp.cY (Bp.cY (Bp.cY (Bp.cY Bp.jn)))),
  fM:=Bp.MF.of (C:=590) (f:=587),
  pw:=Bp.GF.of (f:=601) KX G,
  ou:=Bp.GF.of (f:=606) KX G,
  qN:=Bp.GF.of (f:=611) KX G,
  qO:=Bp.GF.of (f:=618) KX G,
  rM:=Bp.GF.of (f:=625) KX G,
  qW:=Bp.GF.of (f:=632) KX G,
  CI:=⟨_,Bp.cF KX G⟩,
  xB:=⟨_,Bp.cF KX G⟩,
  Eg:=⟨633,Bp.cF KX G,Bp.g7 (by first |k_is |rfl) (by decide) (by exact(.cons ⟨_,rfl⟩ (.cons ⟨_,rfl⟩ (.cons ⟨_,rfl⟩ .nil))))⟩,
  aP:=Bp.CF.of (C:=759) KX G (Bp.cY (Bp.cY Bp.jn)),
  oF:=Bp.MF.of (C:=759) (f:=658),
  c9:=Bp.MF.of (C:=759) (f:=665),
  fL:=Bp.MF.of (C:=759) (f:=672),
  dD:=Bp.MF.of (C:=759) (f:=679),
  dA:=Bp.MF.of (C:=759) (f:=686),
  nZ:=Bp.MF.of (C:=759) (f:=693),
  eM:=Bp.MF.of (C:=759) (f:=700),
  oa:=Bp.MF.of (C:=759) (f:=707),
  og:=Bp.MF.of (C:=759) (f:=714),
  kK:=Bp.MF.of (C:=759) (f:=721),
  nU:=Bp.MF.of (C:=759) (f:=728),
  nS:=Bp.MF.of (C:=759) (f:=735),
  n8:=Bp.MF.of (C:=759) (f:=742),
  nY:=Bp.MF.of (C:=759) (f:=749),
  nX:=Bp.MF.of (C:=759) (f:=756),
  jM:=Bp.GF.of (f:=770) KX G,
  CY:=⟨_,Bp.cF KX G⟩,
  query:=Bp.GF.of (f:=777) KX G,
  where_:=Bp.GF.of (f:=784) KX G,
  plain:=Bp.GF.of (f:=791) KX G,
  qT:=Bp.GF.of (f:=798) KX G,
  qH:=Bp.GF.of (f:=805) KX G,
  oA:=Bp.GF.of (f:=812) KX G,
  path:=Bp.GF.of (f:=819) KX G,
  alike:=Bp.GF.of (f:=826) KX G,
  DO:=⟨_,Bp.cF KX G⟩,
  DN:=⟨_,Bp.cF KX G⟩,
  kU:=Bp.GF.of (f:=833) KX G,
  d7:=Bp.CF.of (C:=850) KX G (Bp.cY (Bp.cY (Bp.cY Bp.jn))),
  oJ:=Bp.MF.of (C:=850) (f:=847),
  aX:=Bp.CF.of (C:=934) KX G (Bp.cY (Bp.cY (Bp.cY Bp.jn))),
  oG:=Bp.MF.of (C:=934) (f:=868),
  i9:=Bp.MF.of (C:=934) (f:=875),
  i_:=Bp.MF.of (C:=934) (f:=882),
  kO:=Bp.MF.of (C:=934) (f:=889),
  n_:=Bp.MF.of (C:=934) (f:=896),
  om:=Bp.MF.of (C:=934) (f:=903),
  oj:=Bp.MF.of (C:=934) (f:=910),
  oo:=Bp.MF.of (C:=934) (f:=917),
  oq:=Bp.MF.of (C:=934) (f:=924),
  oI:=Bp.MF.of (C:=934) (f:=931),
  JW:=⟨_,Bp.cF KX G⟩,
  JU:=⟨_,Bp.cF KX G⟩,
  Ky:=⟨_,Bp.cF KX G⟩,
  JV:=⟨_,Bp.cF KX G⟩,
  IY:=⟨_,Bp.cF KX G⟩,
  I_:=⟨_,Bp.cF KX G⟩,
  IX:=⟨_,Bp.cF KX G⟩,
  JX:=⟨_,Bp.cF KX G⟩,
  IW:=⟨_,Bp.cF KX G⟩,
  Kz:=⟨_,Bp.cF KX G⟩,
  bq:=Bp.CF.of (C:=976) KX G (Bp.cY (Bp.cY Bp.jn)),
  oH:=Bp.MF.of (C:=976) (f:=952),
  ow:=Bp.MF.of (C:=976) (f:=959),
  dC:=Bp.MF.of (C:=976) (f:=966),
  cS:=Bp.MF.of (C:=976) (f:=973),
  qA:=Bp.GF.of (f:=987) KX G,
  done:=Bp.GF.of (f:=994) KX G,
  answer:=Bp.GF.of (f:=1001) KX G,
  answers:=Bp.GF.of (f:=1008) KX G,
  IZ:=⟨573,Bp.cF KX G,Bp.JY (by first |k_is |rfl) (by exact(.cons ⟨rfl,rfl,_,rfl⟩ (.cons ⟨rfl,rfl,_,rfl⟩ (.cons ⟨rfl,rfl,_,rfl⟩ (.cons ⟨rfl,rfl,_,rfl⟩ (.cons ⟨rfl,rfl,_,rfl⟩ (.cons ⟨rfl,rfl,_,rfl⟩ (.cons ⟨rfl,rfl,_,rfl⟩ .nil)))))))) (by decide +kernel) rfl (by decide)⟩,
  Dr:=⟨634,635,636,637,638,639,640,641,642,643,644,Bp.cF KX G,Bp.JY (by first |k_is |rfl) (by exact(.cons ⟨rfl,rfl,rfl⟩ (.cons ⟨rfl,rfl,rfl⟩ (.cons ⟨rfl,rfl,rfl⟩ (.cons ⟨rfl,rfl,rfl⟩ (.cons ⟨rfl,rfl,rfl⟩ (.cons ⟨rfl,rfl,rfl⟩ (.cons ⟨rfl,rfl,rfl⟩ (.cons ⟨rfl,rfl,rfl⟩ (.cons ⟨rfl,rfl,rfl⟩ (.cons ⟨rfl,rfl,rfl⟩ .nil))))))))))) (by decide +kernel) rfl (by decide),fun H=>⟨Bp.g7 (by first |k_is |rfl) (by decide) (by exact .cons ⟨_,rfl⟩ (.cons ⟨_,rfl⟩ (.cons rfl .nil))) H,Bp.g7 (by first |k_is |rfl) (by decide) (by exact .cons ⟨_,rfl⟩ (.cons ⟨_,rfl⟩ (.cons rfl .nil))) H,Bp.g7 (by first |k_is |rfl) (by decide) (by exact .cons ⟨_,rfl⟩ (.cons ⟨_,rfl⟩ (.cons rfl .nil))) H,Bp.g7 (by first |k_is |rfl) (by decide) (by exact .cons ⟨_,rfl⟩ (.cons ⟨_,rfl⟩ (.cons rfl .nil))) H,Bp.g7 (by first |k_is |rfl) (by decide) (by exact .cons ⟨_,rfl⟩ (.cons ⟨_,rfl⟩ (.cons rfl .nil))) H,Bp.g7 (by first |k_is |rfl) (by decide) (by exact .cons ⟨_,rfl⟩ (.cons ⟨_,rfl⟩ (.cons rfl .nil))) H,Bp.g7 (by first |k_is |rfl) (by decide) (by exact .cons ⟨_,rfl⟩ (.cons ⟨_,rfl⟩ (.cons rfl .nil))) H,Bp.g7 (by first |k_is |rfl) (by decide) (by exact .cons ⟨_,rfl⟩ (.cons ⟨_,rfl⟩ (.cons rfl .nil))) H,Bp.g7 (by first |k_is |rfl) (by decide) (by exact .cons ⟨_,rfl⟩ (.cons ⟨_,rfl⟩ (.cons rfl .nil))) H,Bp.g7 (by first |k_is |rfl) (by decide) (by exact .cons ⟨_,rfl⟩ (.cons ⟨_,rfl⟩ (.cons rfl .nil))) H⟩⟩,
  y2:=Bp.gH KX G,
  dy:=Bp.gH KX G,
  J0:=Bp.gH KX G,
  JZ:=Bp.gH KX G,
  gN:=Bp.gH KX G,
  Jf:=Bp.gH KX G,
  DS:=Bp.gH KX G,
  Ei:=Bp.gH KX G,
  HD:=Bp.gH KX G,
  Jg:=Bp.gH KX G,
  J3:=Bp.gH KX G,
  J4:=Bp.gH KX G,
  NK:=Bp.gH KX G,
  xq:=rfl,
  BA:=rfl,
  xp:=rfl,
  qy:=rfl,
  BG:=rfl,
  xm:=rfl,
  B3:=rfl,
  BP:=rfl,
  BH:=rfl,
  B2:=rfl,
  xo:=rfl,
  xn:=rfl,
  Cu:=rfl,
  Cd:=rfl,
  B4:=rfl,
  Ct:=rfl,
  xr:=rfl,
  Bs:=rfl,
  NZ:=(show(341:Nat)≠569 by decide),
  NC:=(show(360:Nat)≠569 by decide),
  NX:=(show(379:Nat)≠569 by decide),
  NY:=(show(398:Nat)≠569 by decide),
  NW:=(show(417:Nat)≠569 by decide),
  CH:=(show(436:Nat)≠569 by decide),
  EG:=(show(474:Nat)≠569 by decide),
  D_:=(show(493:Nat)≠569 by decide),
  DG:=(show(512:Nat)≠569 by decide),
  EF:=(show(531:Nat)≠569 by decide),
  xD:=(show(550:Nat)≠569 by decide),
  jO:=⟨by first |k_is |rfl,by first |k_is |rfl,by first |k_is |rfl,by first |k_is |rfl⟩,
  pB:=⟨by first |k_is |rfl,by first |k_is |rfl,by first |k_is |rfl,by first |k_is |rfl⟩,
  uA:=(by first |k_is |rfl),
  uB:=(by first |k_is |rfl),
  xA:=(by first |k_is |rfl),
  MH:=(by first |k_is |rfl),
  ur:=(by first |k_is |rfl),
  uu:=(by first |k_is |rfl),
  xu:=(by first |k_is |rfl),
  xt:=(by first |k_is |rfl),
  uX:=(by first |k_is |rfl),
  EU:=(by first |k_is |rfl),
  NI:=(by first |k_is |rfl),
  M4:=(by first |k_is |rfl),
  uY:=(by first |k_is |rfl),
  uZ:=(by first |k_is |rfl),
  NJ:=(by first |k_is |rfl),
  M5:=(by first |k_is |rfl),
  mq:=(by first |k_is |rfl),
  mr:=(by first |k_is |rfl),
  qI:=(by first |k_is |rfl),
  qB:=(by first |k_is |rfl)
 },rfl⟩
 case S=>exact fun w H xs a hO qk z8 hx=>Bp.TZ PyVabldl.answers_asked PyVabldl.answers (fun l=>Bp.P_) a hO qk z8 hx
