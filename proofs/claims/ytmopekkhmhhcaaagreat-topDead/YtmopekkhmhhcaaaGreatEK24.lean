/- Parts of the proof. -/
import Derived.Test.YtmopekkhmhhcaaaGreatEL
import Derived.Test.YtmopekkhmhhcaaaGreatEK15
set_option maxRecDepth 100000
set_option maxHeartbeats 16000000
namespace Go.Proofs.YtmopekkhmhhcaaaGreat
open Go.Proofs.Tryz
namespace Wd
open Go.RowKit Pv
theorem j7Z(s:St)(v:Int):(z1h s v).1.W=s.W:=by
 unfold z1h
 repeat' split
 all_goals rfl
theorem q6Z{P:Nat->Prop}{w:World}{s:St}{u:Value}(hu:Rep P w u 8 64 (wsL s.W))(v:Int):Calls prog 64 #[.agg (stC s u),.int .i64 v] w fun e w'=>e=.returned (.tuple #[.agg (stC (z1h s v).1 u),.int .i64 (z1h s v).2])/\Below w.heap.size w w':=by
 obtain ⟨A,C,b,o,rfl,W,-,-⟩:=hu.z9U;exact q2q s A b o C v w W
theorem q7g(x:Ln.Line)(k:Int)(s:ByteArray)(said now:Int)(v1 v2:Value)(P:Nat->Prop)(w:World)(h1:z0I P w v1 1 16 (txC x.S))(h2:z0I P w v2 1 8 (inC x.D)):Calls prog 93 #[.agg #[v1,v2,.int .i64 x.g,.bool x.cl],.int .i64 k,.string s,.int .i64 said,.int .i64 now] w (j7N P w (Ln.z7o x k s said now) (Ln.z4a x k s said now)):=by
 obtain ⟨A1,C1,A2,C2,sb,so,db,dO,rfl,rfl,L,p1,p2⟩:=z0I.line h1 h2;exact (Ln.j4A x A1 A2 C1 C2 sb so db dO k s said now w L).mono fun e w' h=>j3T L p1 p2 h
theorem q8T(x:Ln.Line)(k time got:Int)(v1 v2:Value)(P:Nat->Prop)(w:World)(h1:z0I P w v1 1 16 (txC x.S))(h2:z0I P w v2 1 8 (inC x.D)):Calls prog 95 #[.agg #[v1,v2,.int .i64 x.g,.bool x.cl],.int .i64 k,.int .i64 time,.int .i64 got] w (j7N P w (Ln.z9n x k time got) (Ln.z5l x k time got)):=by
 obtain ⟨A1,C1,A2,C2,sb,so,db,dO,rfl,rfl,L,p1,p2⟩:=z0I.line h1 h2;exact (Ln.j3Q x A1 A2 C1 C2 sb so db dO k time got w L).mono fun e w' h=>j3T L p1 p2 h
end Wd
namespace Kc
open Go.RowKit Pv
theorem j2B{P:Nat->Prop}{w:World}{v:Value}{l:List (Int×Int)}(h:Rep P w v 2 16 (pwC l)):∃ A C b off,v=.slice A l.length C/\Df.PIn w l A b off:=by
 obtain ⟨A,C,rfl,hs,-,hc,-⟩:=h.open (z0c _) (by decide)
 rcases Nat.eq_zero_or_pos l.length with h0 | h0
 ·exact ⟨A,C,0,0,rfl,by omega,fun h=>by omega,fun i hi=>by omega⟩
 ·obtain ⟨b,off,e,-,-,hcell⟩:=hc h0;exact ⟨A,C,b,off,rfl,by omega,fun _=>e,fun i hi=>⟨hcell _ _ (z1P l i hi).1,hcell _ _ (z1P l i hi).2⟩⟩
theorem q0R:∀ l:List (Int×Int),pwL l=pwC l
 | []=>rfl
 | x :: l=>by
  show Value.int .i64 x.1 :: Value.int .i64 x.2 :: pwL l=[Value.int .i64 x.1,Value.int .i64 x.2] ++ pwC l
  rw[q0R l];rfl
theorem j1d{w:World}{B:Nat}{v:Value}{l:List (Int×Int)}(h:z5E w B v l)(hl:l.length<=6):Rep (fun b=>B<=b) w v 2 16 (pwC l):=by
 have h':w.ownsRow B 68 2 v l.length (pwC l):=by rw[← q0R];exact h
 exact Rep.own (bts:=16) h' (by omega)
theorem q6D(a d:List (Int×Int)):(Df.z3V a d).length<=6:=Df.z3C _ _ 6
theorem q8b(a d:List (Int×Int))(v u:Value)(P P':Nat->Prop)(w:World)(ha:Rep P w v 2 16 (pwC a))(hd:Rep P' w u 2 16 (pwC d)) :
  Calls prog 15 #[v,u] w fun e w'=>∃ A n C,e=.returned (.slice A n C)/\Rep (fun b=>w.heap.size<=b) w' (.slice A n C) 2 16 (pwC (Df.z3V a d))/\Below w.heap.size w w':=by
 obtain ⟨A,C,b,off,rfl,p1⟩:=j2B ha;obtain ⟨A',C',b',off',rfl,p2⟩:=j2B hd;refine (Df.q7M a d A A' C C' b off b' off' w p1 p2).mono ?_;rintro e w' ⟨x,rfl,hp,hb⟩;have hr:=j1d hp (q6D a d);obtain ⟨A0,n0,C0,rfl,_⟩:=id hr;exact ⟨A0,n0,C0,rfl,hr,hb⟩
def Joins(F:Option Addr->Nat->Nat->Act)(R:Option Addr->Nat->Nat->World->Prop)(ex:Exit)(a:Act)(w:World):Prop:=∃ A n C,ex=Exit.normal/\a=F A n C/\R A n C w
theorem j2k{P:Program}{c:Code}{Q:Exit->Act->World->Prop}{a:Act}{w:World}(R:Option Addr->Nat->Nat->World->Prop)(F:Option Addr->Nat->Nat->Act)(h1:Code.wp P c (Joins F R) a w)(h2:∀ A n C w',R A n C w'->Q Exit.normal (F A n C) w'):Code.wp P c Q a w:=
 Code.wp_mono (fun e a' w' h=>by obtain ⟨A,n,C,rfl,rfl,h⟩:=h;exact h2 A n C w' h) h1
theorem q8L{n:Nat}(h:n * 16<=168884986026393):Builtin.nextslicecap (n+1) n * 16<=281474976710656:=by
 have:Builtin.nextslicecap (n+1) n<=n+(n+1024) / 4+256:=by
  unfold Builtin.nextslicecap
  split
  ·omega
  ·split
   ·omega
   ·rw[growBy_four]
    repeat' split
    all_goals omega
 omega
def RR(P:Nat->Prop)(B:Nat)(o:Option Nat)(w:World)(v:Value)(l:List (Int×Int)):Prop:=
 (o=none/\(∃ A,v=.slice A l.length l.length)/\Rep P w v 2 8 (pwC l))∨(∃ g cap,o=some g/\v=.slice (some ⟨g,0,none⟩) l.length cap/\w.ownsRow B 88 2 v l.length (pwC l))
theorem j6T:(prog.info? 88).map (fun i=>(i.zero,i.size,i.bytes))=some (some (.agg #[.int .i64 0,.int .i64 0]),2,16):=by kernel_rfl
theorem j3I(l m:List (Int×Int)):pwC (l ++ m)=pwC l ++ pwC m:=by simp[pwC]
theorem RR.slice{P:Nat->Prop}{B:Nat}{o:Option Nat}{w:World}{v:Value}{l:List (Int×Int)}(h:RR P B o w v l):∃ A C,v=.slice A l.length C:=by
 rcases h with ⟨-,⟨A,rfl⟩,-⟩ | ⟨g,cap,-,rfl,-⟩
 ·exact ⟨_,_,rfl⟩
 ·exact ⟨_,_,rfl⟩
theorem RR.keep{P:Nat->Prop}{B:Nat}{o:Option Nat}{w w':World}{v:Value}{l:List (Int×Int)}(h:RR P B o w v l)(h1:∀ b,P b->b<w.heap.size->w'.heap[b]?=w.heap[b]?)(h2:∀ b,o=some b->w'.heap[b]?=w.heap[b]?):RR P B o w' v l:=by
 rcases h with ⟨e,hA,hr⟩ | ⟨g,cap,e,hv,ho⟩
 ·exact .inl ⟨e,hA,hr.keep h1⟩
 ·exact .inr ⟨g,cap,e,hv,Ln.z1i ho fun k hk=>h2 k (by rw[e,← hk,hv];rfl)⟩
theorem RR.lt{P:Nat->Prop}{B:Nat}{o:Option Nat}{w:World}{v:Value}{l:List (Int×Int)}(h:RR P B o w v l){r:Nat}(hr:o=some r):B<=r/\r<w.heap.size:=by
 rcases h with ⟨e,-,-⟩ | ⟨g,cap,e,hv,ho⟩
 ·rw[e]at hr;cases hr
 ·rw[hr]at e;cases e;exact World.ownsRow.lt ho r (by rw[hv];rfl)
theorem RR.rep{P Q:Nat->Prop}{B:Nat}{o:Option Nat}{w:World}{v:Value}{l:List (Int×Int)}(h:RR P B o w v l)(hl:l.length * 16<=168884986026393)(h1:∀ b,b<w.heap.size->P b->Q b)(h2:∀ b,o=some b->Q b):Rep Q w v 2 8 (pwC l):=by
 rcases h with ⟨e,hA,hr⟩ | ⟨g,cap,e,hv,ho⟩
 ·exact hr.mono h1
 ·obtain ⟨A,n,C,a1,a2,a3,a4,a5⟩:=Rep.own (bts:=8) ho (by omega)
  refine ⟨A,n,C,a1,a2,a3,a4,fun h0=>?_⟩;obtain ⟨b,off,b1,b2,b3,b4⟩:=a5 h0;rw[hv]at a1;cases a1;cases b1;exact ⟨g,0,rfl,h2 g e,b3,b4⟩
theorem j4Y{P:Nat->Prop}{B:Nat}{o:Option Nat}{w:World}{v:Value}{l:List (Int×Int)}(h:RR P B o w v l)(hB:B<=w.heap.size)(hl:l.length * 16<=168884986026393)(x:Int×Int)(y:Nat)(hy:∀ j u,([.int .i64 x.1,.int .i64 x.2]:List Value)[j]?=some u->w.cell? ⟨y,j,none⟩=some u) :
  ∃ g cap w',(Builtin.append_ #[60,60] 60 #[v,.slice (some ⟨y,0,none⟩) 1 1]).run prog w=.ok (.slice (some ⟨g,0,none⟩) (l.length+1) cap) w'/\RR P B (some g) w' (.slice (some ⟨g,0,none⟩) (l.length+1) cap) (l ++ [x])/\w.grownBy w' o/\(o=some g∨g=w.heap.size):=by
 obtain ⟨i0,hi,hz0,hz1,hz2⟩:=info_parts j6T;have hnews:∀ j u,([.int .i64 x.1,.int .i64 x.2]:List Value)[j]?=some u->w.cell? ((⟨y,0,none⟩:Addr).add j)=some u:=fun j v hv=>by rw[Addr.add_lit,Nat.zero_add];exact hy j v hv
 have hlen:(pwC l ++ [Value.int .i64 x.1,Value.int .i64 x.2]).length=(l.length+1) * 2:=by rw[List.length_append,z0c];simp;omega
 have hxs:pwC (l ++ [x])=pwC l ++ [.int .i64 x.1,.int .i64 x.2]:=by rw[j3I];rfl
 have hll:(l ++ [x]).length=l.length+1:=by simp
 have h63:l.length+1<=maxLen:=by unfold maxLen;omega
 have hfit:=q8L hl
 have grown:∀ (old:Nat),
   (w.drew.alloc (.cells ((pwC l).toArray ++ ([.int .i64 x.1,.int .i64 x.2]:List Value).toArray ++ Builtin.zeroCells (Value.agg #[.int .i64 0,.int .i64 0]).cells (grownCap w (l.length+1) old 88 - (l.length+1))) 88)).ownsRow B 88 2
    (.slice (some ⟨w.heap.size,0,none⟩) (l.length+1) (grownCap w (l.length+1) old 88)) (l.length+1) (pwC l ++ [.int .i64 x.1,.int .i64 x.2]) /\
   w.grownBy (w.drew.alloc (.cells ((pwC l).toArray ++ ([.int .i64 x.1,.int .i64 x.2]:List Value).toArray ++ Builtin.zeroCells (Value.agg #[.int .i64 0,.int .i64 0]).cells (grownCap w (l.length+1) old 88 - (l.length+1))) 88)) o:=by
  intro old;have hge:=grownCap_ge w (l.length+1) old 88;have hcm:grownCap w (l.length+1) old 88<=maxLen:=grownCap_le_maxLen w (l.length+1) old 88 h63;refine ⟨⟨hlen,.inr ⟨w.heap.size,_,_,rfl,hB,heap_alloc_new w.drew _,hge,hcm,?_,?_⟩⟩,⟨rfl,rfl,rfl,by simp,fun k hk _=>Below.heap_alloc w.drew _ k hk⟩⟩
  ·simp only[Array.size_append,List.size_toArray,size_zeroCells,z0c];simp only[Value.cells,List.size_toArray,List.length_cons,List.length_nil];omega
  ·simp only[Array.toList_append,List.append_assoc];rw[← List.append_assoc,← hlen];exact List.take_left
 have fin:∀ (cap:Nat) (w':World),w'.ownsRow B 88 2 (.slice (some ⟨w.heap.size,0,none⟩) (l.length+1) cap) (l.length+1) (pwC l ++ [.int .i64 x.1,.int .i64 x.2])->RR P B (some w.heap.size) w' (.slice (some ⟨w.heap.size,0,none⟩) (l.length+1) cap) (l ++ [x]):=fun cap w' ho=>.inr ⟨_,cap,rfl,by rw[hll],by rw[hxs,hll];exact ho⟩
 rcases h with ⟨e,⟨A,rfl⟩,hr⟩ | ⟨g,cap,e,rfl,ho⟩
 ·obtain ⟨A',C',e1,-,hn0,hc,hcl⟩:=hr.open (z0c _) (by decide)
  cases e1;cases A with
  | none =>
   obtain ⟨h0,-⟩:=hn0 rfl;obtain rfl:l=[]:=List.length_eq_zero_iff.1 h0;have hr2:=run_append_nil (P:=prog) w 60 60 88 i0 _ underlying60 hi hz0 ⟨y,0,none⟩ 1 1 [.int .i64 x.1,.int .i64 x.2] (by rw[hz1];rfl) hnews (by omega) (by omega) (by rw[hz2];omega)
   have hg:=grown 0;refine ⟨_,_,_,hr2,fin _ _ ?_,?_,.inr rfl⟩
   ·simpa [pwC] using hg.1
   ·simpa [pwC] using hg.2
  | some a =>
   have hr2:=run_append_grow (P:=prog) w 60 60 88 i0 _ underlying60 hi hz0 a l.length l.length (pwC l) (by rw[hz1,z0c]) (hcl a rfl) ⟨y,0,none⟩ 1 1 [.int .i64 x.1,.int .i64 x.2] (by rw[hz1];rfl) hnews (by omega) (by unfold maxLen at h63;omega) (by rw[hz2];exact hfit)
   exact ⟨_,_,_,hr2,fin _ _ (grown l.length).1,(grown l.length).2,.inr rfl⟩
 ·rcases ho.2 with ⟨hv,-⟩ | ⟨g',cap',cur,hv,hbg,hg,hnc,hcm,hcs,htake⟩
  ·cases hv
  cases hv
  by_cases hroom:l.length+1<=cap
  ·have hf:l.length * i0.size+([.int .i64 x.1,.int .i64 x.2]:List Value).length<=cur.size:=by rw[hz1,hcs];simp;omega
   have hr2:=run_append_room (P:=prog) w 60 60 88 i0 underlying60 hi g l.length cap cur hg ⟨y,0,none⟩ 1 1 [.int .i64 x.1,.int .i64 x.2] (by rw[hz1];rfl) hnews (fun u hu=>by simp at hu;rcases hu with rfl | rfl <;> rfl) hroom hf
   refine ⟨_,_,_,hr2,.inr ⟨g,cap,rfl,by rw[hll],?_⟩,⟨rfl,rfl,rfl,by simp,fun k _ hk=>setRow_other w g k _ (fun e'=>hk (by rw[e,e']))⟩,.inl e⟩
   rw[hxs,hll];refine ⟨hlen,.inr ⟨g,cap,_,rfl,hbg,setRow_heap w g cur _ 88 _ hg,hroom,hcm,?_,?_⟩⟩
   ·simp only[List.size_toArray,List.length_append,List.length_take,List.length_drop,Array.length_toList];rw[hz1]
    simp
    omega
   ·rw[hz1,htake,← hlen];exact List.take_left
  ·have hceq:cap=l.length:=by omega
   subst hceq;have holds:∀ j u,(pwC l)[j]?=some u->w.cell? ((⟨g,0,none⟩:Addr).add j)=some u:=ho.cells (g:=g) rfl;have hr2:=run_append_grow (P:=prog) w 60 60 88 i0 _ underlying60 hi hz0 ⟨g,0,none⟩ l.length l.length (pwC l) (by rw[hz1,z0c]) holds ⟨y,0,none⟩ 1 1 [.int .i64 x.1,.int .i64 x.2] (by rw[hz1];rfl) hnews (by omega) (by unfold maxLen at h63;omega) (by rw[hz2];exact hfit)
   exact ⟨_,_,_,hr2,fin _ _ (grown l.length).1,(grown l.length).2,.inr rfl⟩
theorem j0u{P:Nat->Prop}{ops:Array Oper}{oo:Oper}{a:Act}{w:World}{K:Act->World->Prop}{Q:Exit->Act->World->Prop}{E:Prop}(hg:oo.guard=none)(hty:oo.type=60)(p q:Operand)
  (hop:oo.op=Op.call { callee:=Callee.builtin Builtin.append,args:=#[p,q],argTypes:=#[60,60] }) {B:Nat} {o:Option Nat} {v:Value} {l:List (Int×Int)} (hs:a.eval p=v) (x:Int×Int) (y:Nat) (hx:a.eval q=.slice (some ⟨y,0,none⟩) 1 1)
  (h:RR P B o w v l) (hB:B<=w.heap.size) (hl:l.length * 16<=168884986026393) (hy:∀ j u,([.int .i64 x.1,.int .i64 x.2]:List Value)[j]?=some u->w.cell? ⟨y,j,none⟩=some u)
  (hK:∀ g C w',RR P B (some g) w' (.slice (some ⟨g,0,none⟩) (l.length+1) C) (l ++ [x])->w.grownBy w' o->(o=some g∨g=w.heap.size)->K (a.put oo.dst (.slice (some ⟨g,0,none⟩) (l.length+1) C)) w') :
  if Region.wanted oo (yielded ops a.tmps)=true then Oper.wp prog oo a w K Q else E:=by
 have hw:Region.wanted oo (yielded ops a.tmps)=true:=by simp[Region.wanted,hg]
 rw[if_pos hw];unfold Oper.wp;obtain ⟨g,C,w',hr,h1,h2,h3⟩:=j4Y h hB hl x y hy
 simp[execOp,hop,resolve,invoke,builtin,hs,hx,hty,hr,Result.andThen]
 exact hK _ _ _ h1 h2 h3
end Kc
namespace Pv
def swI(l:List Int)(p:Nat):List Int:=(l.set (p+1) (l.getD p 0)).set p (l.getD (p+1) 0)
def q6r:Nat->List Int->List Int
 | 0,l=>l
 | p+1,l=>if l.getD (p+1) 0<l.getD p 0 then q6r p (swI l p) else l
def q4C(l:List Int):Nat->List Int
 | 0=>l
 | m+1=>q6r (m+1) (q4C l m)
def z4V(l:List Int):List Int:=q4C l (l.length - 1)
theorem z9b(l:List Int)(p:Nat):(swI l p).length=l.length:=by simp[swI]
theorem z7c:∀ (j:Nat) (l:List Int),(q6r j l).length=l.length
 | 0,_=>rfl
 | p+1,l=>by rw[q6r];split;rw[z7c p,z9b];rfl
theorem z4M(l:List Int):∀ m,(q4C l m).length=l.length
 | 0=>rfl
 | m+1=>by rw[q4C,z7c,z4M l m]
theorem q0H(l:List Int):(z4V l).length=l.length:=z4M _ _
theorem z4B:∀ (l:List Int) (a:Int),z2e a l=true->∀ x∈l,a<x/\x<=5
 | [],_,_,x,hx=>by cases hx
 | y :: l,a,h,x,hx=>by
  simp only[z2e,Bool.and_eq_true,decide_eq_true_eq]at h
  rcases List.mem_cons.1 hx with rfl | hx
  ·exact ⟨h.1.1,h.1.2⟩
  ·have:=z4B l y h.2 x hx;exact ⟨by omega,this.2⟩
theorem q2N:∀ (l m:List Int) (a b:Int),z2e a l=true->z2e b m=true->(∀ x,x∈l↔x∈m)->l=m
 | [],[],_,_,_,_,_=>rfl
 | [],y :: m,_,_,_,_,h=>by have:=(h y).2 (List.mem_cons_self);cases this
 | x :: l,[],_,_,_,_,h=>by have:=(h x).1 (List.mem_cons_self);cases this
 | x :: l,y :: m,a,b,hl,hm,h=>by
  simp only[z2e,Bool.and_eq_true,decide_eq_true_eq]at hl hm
  have e:x=y:=by
   rcases List.mem_cons.1 ((h x).1 List.mem_cons_self) with h1 | h1
   ·exact h1
   ·rcases List.mem_cons.1 ((h y).2 List.mem_cons_self) with h2 | h2
    ·exact h2.symm
    ·have:=(z4B m y hm.2 x h1).1;have:=(z4B l x hl.2 y h2).1;omega
  subst e;rw[q2N l m x x hl.2 hm.2 fun z=>⟨fun hz=>?_,fun hz=>?_⟩]
  ·rcases List.mem_cons.1 ((h z).1 (List.mem_cons_of_mem _ hz)) with h1 | h1
   ·have:=(z4B l x hl.2 z hz).1;omega
   ·exact h1
  ·rcases List.mem_cons.1 ((h z).2 (List.mem_cons_of_mem _ hz)) with h1 | h1
   ·have:=(z4B m x hm.2 z hz).1;omega
   ·exact h1
def six:List Int:=[0,1,2,3,4,5]
theorem j5V:(List.range 6).map Int.ofNat=six:=by decide
theorem j4C{v:Int}(h0:0<=v)(h1:v<=5):v∈six:=by
 rcases (show v=0∨v=1∨v=2∨v=3∨v=4∨v=5 by omega) with rfl | rfl | rfl | rfl | rfl | rfl <;> decide
def mkB(b0 b1 b2 b3 b4 b5:Bool):List Int:=(if b0 then [0] else []) ++ (if b1 then [1] else []) ++ (if b2 then [2] else []) ++ (if b3 then [3] else []) ++ (if b4 then [4] else []) ++ (if b5 then [5] else [])
theorem z5D(f:Int->Bool):six.filter f=mkB (f 0) (f 1) (f 2) (f 3) (f 4) (f 5):=by
 unfold six mkB;simp only[List.filter_cons,List.filter_nil];cases f 0 <;> cases f 1 <;> cases f 2 <;> cases f 3 <;> cases f 4 <;> cases f 5 <;> rfl
theorem q8A:∀ b0 b1 b2 b3 b4 b5:Bool,z2e (-1) (mkB b0 b1 b2 b3 b4 b5)=true:=by decide +kernel
theorem q1G{D:List Int}(h:z2e (-1) D=true):D=six.filter fun u=>decide (u∈D):=by
 refine q2N D _ (-1) (-1) h (by rw[z5D];exact q8A _ _ _ _ _ _) fun x=>⟨fun hx=>?_,fun hx=>?_⟩
 ·have:=z4B D (-1) h x hx;exact List.mem_filter.2 ⟨j4C (by omega) this.2,by simpa using hx⟩
 ·simpa using (List.mem_filter.1 hx).2
theorem z9y(D:List Int)(v:Int):z2K D v=six.filter fun u=>decide (u=v) || decide (u∈D):=by unfold z2K;rw[j5V]
theorem q9o(D:List Int)(v:Int):z2e (-1) (z2K D v)=true:=by rw[z9y,z5D];exact q8A _ _ _ _ _ _
theorem j5B{D:List Int}{v:Int}(h:z2e (-1) D=true)(hv:v∈D):z2K D v=D:=by
 rw[z9y]
 conv=>rhs;rw[q1G h]
 congr 1
 funext u
 by_cases e:u=v
 ·subst e;simp[hv]
 ·simp[e]
theorem q3B{D:List Int}(h:z2e (-1) D=true):D.length<=6:=by
 rw[q1G h];exact List.length_filter_le _ _
theorem j3R:∀ b0 b1 b2 b3 b4 b5:Bool,(b0=false->z4V (mkB b0 b1 b2 b3 b4 b5 ++ [0])=mkB true b1 b2 b3 b4 b5)/\(b1=false->z4V (mkB b0 b1 b2 b3 b4 b5 ++ [1])=mkB b0 true b2 b3 b4 b5)/\(b2=false->z4V (mkB b0 b1 b2 b3 b4 b5 ++ [2])=mkB b0 b1 true b3 b4 b5)/\(b3=false->z4V (mkB b0 b1 b2 b3 b4 b5 ++ [3])=mkB b0 b1 b2 true b4 b5)/\(b4=false->z4V (mkB b0 b1 b2 b3 b4 b5 ++ [4])=mkB b0 b1 b2 b3 true b5)/\(b5=false->z4V (mkB b0 b1 b2 b3 b4 b5 ++ [5])=mkB b0 b1 b2 b3 b4 true):=by decide +kernel
theorem q6K{D:List Int}{v:Int}(h:z2e (-1) D=true)(h0:0<=v)(h1:v<=5)(hv:v ∉ D):z4V (D ++ [v])=z2K D v:=by
 have hm:=q1G h;rw[z5D]at hm;have hv':decide (v∈D)=false:=by simpa using hv
 have k:=j3R (decide ((0:Int)∈D)) (decide ((1:Int)∈D)) (decide ((2:Int)∈D)) (decide ((3:Int)∈D)) (decide ((4:Int)∈D)) (decide ((5:Int)∈D));rw[← hm]at k;rw[z9y,z5D]
 rcases (show v=0∨v=1∨v=2∨v=3∨v=4∨v=5 by omega) with rfl | rfl | rfl | rfl | rfl | rfl
 ·rw[k.1 hv'];simp
 ·rw[k.2.1 hv'];simp
 ·rw[k.2.2.1 hv'];simp
 ·rw[k.2.2.2.1 hv'];simp
 ·rw[k.2.2.2.2.1 hv'];simp
 ·rw[k.2.2.2.2.2 hv'];simp
end Pv
namespace Pv
open Go.RowKit
theorem q5G(l:List Int)(u:Value)(P:Nat->Prop)(w:World)(v:Int)(hu:Rep P w u 1 8 (inC l)) :
  Calls prog 204 #[u,.int .i64 v] w fun e w'=>(∃ r:Int,e=.returned (.int .i64 r)/\decide (0<=r)=decide (v∈l))/\w=w':=by
 obtain ⟨A,C,rfl,hs,-,hc,-⟩:=hu.open (z0p _) (by decide)
 have HC:=hide hc;have hla:l.length<=17592186044405:=by omega
 obtain ⟨G,hG⟩:∃ G,decide (v∈l)=G:=⟨_,rfl⟩;have HG:=hide hG;rw[hG];clear hc hu hs hG
 go_enter func204,ntmps204
 go_wp2
 go_loop [8] (fun i=>∃ (k:Nat),k<=l.length/\i=.int .i64 (k:Int)/\Hid (G=decide (v∈l.drop k))) (fun i=>l.length - (intOf i).toNat)
 case atStart=>exact ⟨0,Nat.zero_le _,rfl,by rw[List.drop_zero];exact HG.out.symm⟩
 case round =>
  obtain ⟨k,hk,rfl,HR⟩:=hrel
  by_cases hlt:k<l.length
  ·have hkI:(k:Int)<(l.length:Int):=by omega
   obtain ⟨x,hx,hd⟩:=z9q hlt;obtain ⟨ba,oa,rfl,-,hbl,hcell⟩:=HC.out (by omega)
   have gx:l.getD k 0=x:=by simp[List.getD,hx]
   have p0:=z3J l k hlt;rw[gx]at p0;have c0:w.cell? ⟨ba,oa+k,none⟩=some (.int .i64 x):=hcell _ _ p0;have HE:Hid (G=decide (v∈x :: l.drop (k+1))):=by have:=HR.out;rw[hd]at this;exact this
   clear HR hd hx gx p0 hcell
   by_cases h1:v=x
   ·subst h1;have e:G=true:=by rw[HE.out];simp
    subst e;clear HE HG;go_wp2;go_ret;exact ⟨⟨_,rfl,by simp⟩,rfl⟩
   ·have HE2:Hid (G=decide (v∈l.drop (k+1))):=by rw[Hid,HE.out];simp[h1]
    clear HE;go_wp2
    go_round
    case rel=>exact ⟨k+1,by omega,by go_num,HE2⟩
    case measure=>simp[intOf];omega
  ·obtain rfl:k=l.length:=by omega
   have e:G=false:=by have:=HR.out;rw[List.drop_length]at this;simpa using this
   subst e;go_wp2;go_ret;exact ⟨⟨_,rfl,by decide⟩,rfl⟩
theorem z9H(l:List Int)(u:Value)(P:Nat->Prop)(w:World)(v:Int)(hu:Rep P w u 1 8 (inC l)) :
  Calls prog 196 #[u,.int .i64 v] w fun e w'=>e=.returned (.bool (decide (v∈l)))/\w=w':=by
 have HI:=hide (q5G l u P w v hu);generalize decide (v∈l)=G at *;clear hu
 go_enter func196,ntmps196
 go_wp2_with (go_at_call 204;refine HI.out.mono ?_;rintro e w1 ⟨⟨r,rfl,hr⟩,rfl⟩)
 go_ret;subst hr;exact ⟨rfl,rfl⟩
theorem q7N(ao:Option Addr)(n c:Nat)(hn:n<=c)(h0:ao=none->n=0)(hc:(n:Int)<4611686018427387904)(w:World):Calls prog 197 #[.slice ao n c] w fun e w'=>e=.returned (.slice ao n n)/\w=w':=by
 have h1:(n:Int)<=(c:Int):=by omega
 have h2:(0:Int)<=(n:Int):=by omega
 go_enter func197,ntmps197
 cases ao
 ·obtain rfl:=h0 rfl;go_wp2;go_ret;exact ⟨rfl,rfl⟩
 ·clear h0;go_wp2;go_ret;exact ⟨rfl,rfl⟩
def z5J(w:World)(g:Nat)(l:List Int):Prop:=∃ cur:Array Value,w.heap[g]?=some (.cells cur 3 (0,0))/\∀ (i:Nat) (x:Int),l[i]?=some x->cur[i]?=some (Value.int .i64 x)
theorem z5J.later{w w':World}{g:Nat}{l:List Int}(h:z5J w g l)(hb:Below w.heap.size w w'):z5J w' g l:=by
 obtain ⟨cur,hc,hx⟩:=h;exact ⟨cur,(hb.block g (Array.getElem?_eq_some_iff.1 hc).1).trans hc,hx⟩
theorem z5J.cell{w:World}{g:Nat}{l:List Int}(h:z5J w g l){i:Nat}(hi:i<l.length):w.cell? ⟨g,i,none⟩=some (.int .i64 (l.getD i 0)):=by
 obtain ⟨cur,hc,hx⟩:=h;have e:l[i]?=some (l.getD i 0):=by simp[List.getD,hi]
 have h1:=hx i _ e;simp only[World.cell?,hc]
 simp[h1]
theorem z5J.free{w:World}{g:Nat}{l:List Int}(h:z5J w g l)(o:Nat):w.frozen? ⟨g,o,none⟩=false:=by
 obtain ⟨cur,hc,_⟩:=h
 simp[World.frozen?,hc]
theorem z5J.lt{w:World}{g:Nat}{l:List Int}(h:z5J w g l):g<w.heap.size:=by
 obtain ⟨cur,hc,_⟩:=h;exact (Array.getElem?_eq_some_iff.1 hc).1
theorem z5J.put{w:World}{g:Nat}{l:List Int}(h:z5J w g l){i:Nat}(hi:i<l.length)(x:Int):z5J (w.setCell ⟨g,i,none⟩ (.int .i64 x)) g (l.set i x):=by
 obtain ⟨cur,hc,hx⟩:=h;have s1:i<cur.size:=(Array.getElem?_eq_some_iff.1 (hx i _ (List.getElem?_eq_getElem hi))).1;refine ⟨cur.setIfInBounds i (.int .i64 x),?_,fun j y hy=>?_⟩
 ·simp[World.setCell,Array.getElem?_modify,hc]
 ·rw[List.getElem?_set]at hy
  by_cases hj:i=j
  ·subst hj;rw[if_pos rfl,if_pos hi]at hy
   simp at hy
   subst hy
   simp[s1]
  ·rw[if_neg hj]at hy;have h1:=hx j y hy;simp only[Array.getElem?_setIfInBounds];rw[if_neg hj];exact h1
theorem z5J.rep{w:World}{g C:Nat}{l:List Int}(h:z5J w g l)(hC:l.length<=C)(hl:l.length * 8<=140737488351232):Rep (fun b=>b=g) w (.slice (some ⟨g,0,none⟩) l.length C) 1 8 (inC l):=by
 refine ⟨_,l.length,C,rfl,by simp[inC],hl,⟨fun e=>(by cases e),hC⟩,fun h0=>⟨g,0,rfl,rfl,h.lt,fun j u hu=>?_⟩⟩
 have hj:j<l.length:=by have:=(List.getElem?_eq_some_iff.1 hu).1;rw[z0p]at this;omega
 rw[Nat.zero_add,h.cell hj,← hu,z3J l j hj]
theorem q8V(x y:Int)(w:World):Calls prog 213 #[.int .i64 x,.int .i64 y] w fun e w'=>e=.returned (.bool (decide (x<y)))/\w=w':=by
 go_enter func213,ntmps213
 by_cases h:x<y
 ·go_wp2_with (go_at_call 189;refine (z7L _ _).mono ?_;rintro e w1 ⟨rfl,rfl⟩)
  all_goals (go_ret;exact ⟨by simp[h],rfl⟩)
 ·go_wp2_with (go_at_call 189;refine (z7L _ _).mono ?_;rintro e w1 ⟨rfl,rfl⟩)
  all_goals (go_ret;exact ⟨by simp,rfl⟩)
theorem j0D(g cap:Nat)(l:List Int)(w:World)(h:z5J w g l)(hn:l.length<=12) :
  Calls prog 207 #[.slice (some ⟨g,0,none⟩) l.length cap,.int .i64 0,.int .i64 (l.length:Int)] w fun e w'=>e=.returned (.tuple #[])/\z5J w' g (z4V l)/\z2J g w w':=by
 have HR0:=hide h;clear h
 go_enter func207,ntmps207
 go_wp2
 go_loopw [6] (fun i wl=>∃ m:Nat,i=.int .i64 ((m:Int)+1)/\(m+1<=l.length∨m=0)/\Hid (z5J wl g (q4C l m)/\z2J g w wl)) (fun i _=>l.length - (intOf i).toNat)
 case atStart=>exact ⟨0,rfl,.inr rfl,HR0.out,z2J.refl _ _⟩
 case round =>
  obtain ⟨m,rfl,hm,HR⟩:=hrel
  by_cases hlt:m+1<l.length
  ·rename World=>wo
   have hlt':(m:Int)+1<(l.length:Int):=by omega
   go_wp2_with fail
   go_loopw [7] (fun j wl=>∃ (p:Nat) (l':List Int),j=.int .i64 (p:Int)/\p<=m+1/\l'.length=l.length/\Hid (q6r (m+1) (q4C l m)=q6r p l'/\z5J wl g l'/\z2J g w wl)) (fun j _=>(intOf j).toNat)
   case atStart=>exact ⟨m+1,q4C l m,by go_num,Nat.le_refl _,z4M _ _,rfl,HR.out⟩
   case round =>
    obtain ⟨p,l',rfl,hp,hl',HI⟩:=hrel;have hsz:w.heap.size<=wr.heap.size:=HI.out.2.2.size;cases p with
    | zero =>
     have hg0:decide ((0:Int)<0)=false:=by decide
     go_upto_region 4 with fail
     go_quiet (fail);go_wp2;go_roundw
     case rel=>exact ⟨m+1,by go_num,.inl (by omega),(by rw[q4C,HI.out.1];exact HI.out.2.1),(show z2J g w (wr.drewN nq) from HI.out.2.2.drewN nq)⟩
     case measure=>simp[intOf];omega
    | succ p =>
     have hp1:p+1<l'.length:=by omega
     have c0:=HI.out.2.1.cell (i:=p+1) hp1;have d0:=HI.out.2.1.cell (i:=p) (by omega)
     have hC:=q8V (l'.getD (p+1) 0) (l'.getD p 0);have hgl:=HI.out.2.1.lt;have HI1:Hid (q6r (m+1) (q4C l m)=if l'.getD (p+1) 0<l'.getD p 0 then q6r p (swI l' p) else l'):=HI.out.1;have HRow:=hide HI.out.2;clear HI;generalize hA:l'.getD (p+1) 0=A at *;generalize hB:l'.getD p 0=B at *;have HA:=hide hA;have HB:=hide hB;clear hA hB;have hw1:IntKind.i64.wrap (((p+1:Nat):Int) - 1)=(p:Int):=by rw[show ((p+1:Nat):Int) - 1=(p:Int) by omega];exact z7V (by omega) (by omega)
     generalize hq:p+1=q at *;have HQ:=hide hq;clear hq;have hq0:(0:Int)<=(q:Int):=by omega
     have hq1:(q:Int)<(l.length:Int):=by omega
     have hp0:(0:Int)<=(p:Int):=by omega
     have hp2:(p:Int)<(l.length:Int):=by have:=HQ.out;omega
     have hg0:decide (0<q)=true:=by have:=HQ.out;simp;omega
     go_upto_region 4 with fail
     go_region_held3 (fun wx=>wx.cell? ⟨g,q,none⟩=some (.int .i64 A)/\wx.cell? ⟨g,p,none⟩=some (.int .i64 B)) (first | go_keep | exact ⟨c0,d0⟩)
      (first | (go_at_call 213;refine (hC _).mono ?_;rintro e w1 ⟨rfl,rfl⟩))
     rename_i hh;obtain ⟨c0',d0'⟩:=hh;have hR1:=HRow.out.1.later (w':=wr.drew) (show Below wr.heap.size wr wr.drew from (Below.refl _ wr).drew);have hB1:z2J g w wr.drew:=HRow.out.2.trans (z2J.of_below (show Below wr.heap.size wr wr.drew from (Below.refl _ wr).drew));generalize wr.drew=w1 at *;have HR1:=hide hR1;have HB1:=hide hB1;have f0:=hR1.free q;have f2:=hR1.free p;clear hR1 hB1 c0 d0 HRow hC
     by_cases hr:A<B
     ·have hd:decide (A<B)=true:=by simpa using hr
      rw[hd];have hqp:=HQ.out;have n1:¬ p=q:=by omega
      have n2:¬ q=p:=by omega
      clear hqp
      go_upto_region 6 with fail
      go_region;have hsw:(l'.set q B).set p A=swI l' p:=by rw[swI,HQ.out,HA.out,HB.out]
      have HR2:Hid (z5J (((w1.setCell ⟨g,q,none⟩ (.int .i64 B)).setCell ⟨g,p,none⟩ (.int .i64 A)).drew) g (swI l' p)):=by
       rw[← hsw];exact (HR1.out.put hp1 B).put (by simp;omega) A
      have HB2:Hid (z2J g w (((w1.setCell ⟨g,q,none⟩ (.int .i64 B)).setCell ⟨g,p,none⟩ (.int .i64 A)).drew)):=((HB1.out.set _ _).set _ _).drew;have HE:Hid (q6r (m+1) (q4C l m)=q6r p (swI l' p)):=by rw[HI1.out];exact if_pos hr
      clear hsw;generalize ((w1.setCell ⟨g,q,none⟩ (.int .i64 B)).setCell ⟨g,p,none⟩ (.int .i64 A)).drew=w2 at *;go_wp2;go_roundw
      case rel=>exact ⟨p,swI l' p,rfl,by have:=HQ.out;omega,(by rw[z9b];exact hl'),HE.out,HR2.out,HB2.out⟩
      case measure=>have:=HQ.out;simp[intOf];omega
     ·have hd:decide (A<B)=false:=by simpa using hr
      rw[hd];have HE:Hid (q6r (m+1) (q4C l m)=l'):=by rw[HI1.out];exact if_neg hr
      go_wp2;go_roundw
      case rel=>exact ⟨m+1,by go_num,.inl (by omega),(by rw[q4C,HE.out];exact HR1.out),HB1.out⟩
      case measure=>simp[intOf];omega
  ·have hE:z4V l=q4C l m:=by
    unfold z4V
    rcases hm with h | rfl
    ·rw[show l.length - 1=m by omega]
    ·rcases (show l.length=0∨l.length=1 by omega) with h | h <;> rw[h]
   have HE:=hide hE;clear hE;go_wp2;go_end0;exact ⟨rfl,by rw[HE.out];exact HR.out.1,HR.out.2⟩
theorem j1M(g cap:Nat)(lim:Int)(l:List Int)(w:World)(h:z5J w g l)(hn:l.length<=12) :
  Calls prog 205 #[.slice (some ⟨g,0,none⟩) l.length cap,.int .i64 0,.int .i64 (l.length:Int),.int .i64 lim] w fun e w'=>e=.returned (.tuple #[])/\z5J w' g (z4V l)/\z2J g w w':=by
 have hI:=j0D g cap l w h hn;have hn':(l.length:Int)<=12:=by omega
 clear h
 go_enter func205,ntmps205
 go_wp2_with fail
 go_loopw [1,2] (fun a b wl=>a=.int .i64 0/\b=.int .i64 (l.length:Int)/\Hid (wl=w)) (fun _ _ _=>0)
 case atStart=>exact ⟨rfl,rfl,rfl⟩
 case round =>
  obtain ⟨rfl,rfl,HW⟩:=hrel;have e:=HW.out;subst e;clear HW
  go_wp2_with (go_at_call 207;refine hI.mono ?_;rintro e w1 ⟨rfl,h1⟩;have H1:=hide h1;clear h1)
  exact bodyPost_ret (v:=.tuple #[]) (by simp[results,results205]) rfl ⟨rfl,H1.out⟩
theorem q6p(n:Nat)(hn:n<=12)(w:World):Calls prog 159 #[.int .u64 (n:Int)] w fun e w'=>(∃ k,e=.returned (.int .i64 k))/\w=w':=by
 have hL:=Ra.j1L n (by omega)
 go_enter func159,ntmps159
 go_wp2_with (go_at_call 188;refine (hL _).mono ?_;rintro e w1 ⟨rfl,rfl⟩)
 go_ret;exact ⟨⟨_,rfl⟩,rfl⟩
theorem q9m(g cap:Nat)(l:List Int)(w:World)(h:z5J w g l)(hn:l.length<=12) :
  Calls prog 198 #[.slice (some ⟨g,0,none⟩) l.length cap] w fun e w'=>e=.returned (.tuple #[])/\z5J w' g (z4V l)/\z2J g w w':=by
 have hP:=fun lim=>j1M g cap lim l w h hn;have hL:=q6p l.length hn w;clear h
 go_enter func198,ntmps198
 go_wp2_with (first
  | (go_at_call 159;refine hL.mono ?_;rintro e w1 ⟨⟨k,rfl⟩,rfl⟩)
  | (go_at_call 205;refine (hP _).mono ?_;rintro e w2 ⟨rfl,h1⟩;have H1:=hide h1;clear h1))
 go_end0;exact ⟨rfl,H1.out⟩
end Pv
section
theorem swap_perm:∀ (l:List Pw) (p:Nat),p+1<l.length->(swapAt l p).Perm l
 | [],_,h=>by simp at h
 | [_],_,h=>by simp at h
 | a :: b :: t,0,_=>by
  have e:swapAt (a :: b :: t) 0=b :: a :: t:=by simp[swapAt]
  rw[e];exact List.Perm.swap a b t
 | a :: b :: t,p+1,h=>by
  have e:swapAt (a :: b :: t) (p+1)=a :: swapAt (b :: t) p:=by simp[swapAt]
  rw[e];exact (swap_perm (b :: t) p (by simp at h ⊢;omega)).cons a
theorem q6j(l:List Pw)(p:Nat)(h:p+1<l.length)(i:Nat):(swapAt l p).getD i pz=if i=p then l.getD (p+1) pz else if i=p+1 then l.getD p pz else l.getD i pz:=by
 unfold swapAt;simp only[List.getD_eq_getElem?_getD,List.getElem?_set,List.length_set]
 by_cases h1:i=p
 ·subst h1;simp[show i<l.length by omega]
 ·by_cases h2:i=p+1
  ·subst h2;simp[h]
  ·rw[if_neg (by omega),if_neg (by omega),if_neg h1,if_neg h2]
def Srt(lt:Pw->Pw->Bool)(l:List Pw)(m:Nat):Prop:=∀ i j,i<j->j<m->lt (l.getD j pz) (l.getD i pz)=false
structure Ord(lt:Pw->Pw->Bool):Prop where
 asym:∀ a b,lt a b=true->lt b a=false
 trans:∀ a b c,lt b a=false->lt c b=false->lt c a=false
theorem q8S{lt:Pw->Pw->Bool}(o:Ord lt):∀ (p:Nat) (l:List Pw) (m:Nat),p<m->m<=l.length->(∀ i j,i<j->j<m->j≠p->lt (l.getD j pz) (l.getD i pz)=false)->Srt lt (z7X lt p l) m
 | 0,l,m,_,_,h=>fun i j hij hj=>h i j hij hj (by omega)
 | p+1,l,m,hp,hm,h=>by
  rw[z7X]
  split
  ·rename_i hlt;refine q8S o p _ m (by omega) (by rw[z2X];exact hm) fun i j hij hj hjp=>?_
   have hs:=q6j l p (by omega)
   rw[hs j,hs i]
   by_cases h1:j=p+1
   ·subst h1;rw[if_neg (by omega),if_pos rfl]
    by_cases h2:i=p
    ·subst h2;rw[if_pos rfl];exact o.asym _ _ hlt
    ·rw[if_neg h2,if_neg (by omega)];exact h i p (by omega) (by omega) (by omega)
   ·rw[if_neg hjp,if_neg h1]
    by_cases h2:i=p
    ·subst h2;rw[if_pos rfl];exact h _ j (by omega) hj h1
    ·rw[if_neg h2]
     by_cases h3:i=p+1
     ·subst h3;rw[if_pos rfl];exact h p j (by omega) hj h1
     ·rw[if_neg h3];exact h i j hij hj h1
  ·rename_i hlt;have hlt':lt (l.getD (p+1) pz) (l.getD p pz)=false:=by simpa using hlt
   intro i j hij hj
   by_cases h1:j=p+1
   ·subst h1
    by_cases h2:i=p
    ·subst h2;exact hlt'
    ·exact o.trans _ _ _ (h i p (by omega) (by omega) (by omega)) hlt'
   ·exact h i j hij hj h1
theorem q3q(lt:Pw->Pw->Bool):∀ (p:Nat) (l:List Pw),p<l.length->(z7X lt p l).Perm l
 | 0,_,_=>List.Perm.refl _
 | p+1,l,h=>by
  rw[z7X]
  split
  ·exact (q3q lt p _ (by rw[z2X];omega)).trans (swap_perm l p h)
  ·exact List.Perm.refl _
theorem z9g{lt:Pw->Pw->Bool}(o:Ord lt)(l:List Pw):∀ k,k<l.length->Srt lt (z1l lt l k) (k+1)
 | 0,_=>fun i j hij hj=>by omega
 | k+1,h=>by
  rw[z1l];exact q8S o (k+1) _ (k+2) (by omega) (by rw[z1N];omega) fun i j hij hj hk=>z9g o l k (by omega) i j hij (by omega)
theorem z7B(lt:Pw->Pw->Bool)(l:List Pw):∀ k,k<l.length->(z1l lt l k).Perm l
 | 0,_=>List.Perm.refl _
 | k+1,h=>by
  rw[z1l];exact (q3q lt (k+1) _ (by rw[z1N];exact h)).trans (z7B lt l k (by omega))
theorem z3v(lt:Pw->Pw->Bool)(l:List Pw):(z2m lt l).Perm l:=by
 unfold z2m
 rcases Nat.eq_zero_or_pos l.length with h | h
 ·rw[h];exact List.Perm.refl _
 ·exact z7B lt l _ (by omega)
theorem q8g{lt:Pw->Pw->Bool}(o:Ord lt)(l:List Pw):Srt lt (z2m lt l) l.length:=by
 unfold z2m
 rcases Nat.eq_zero_or_pos l.length with h | h
 ·intro i j hij hj;omega
 ·have:=z9g o l (l.length - 1) (by omega)
  rwa [show l.length - 1+1=l.length by omega]at this
theorem q7e(a b:Pw):ltV a b=true↔a.1<b.1:=by
 unfold ltV j1n q9Z;rw[decide_eq_true_eq]
 split
 ·simp_all
 ·split <;> simp_all <;> omega
theorem q9l(a b:Pw):ltV a b=false↔¬ a.1<b.1:=by rw[← q7e,Bool.not_eq_true]
theorem j8W:Ord ltV:=⟨fun a b h=>by rw[q9l];rw[q7e]at h;omega,fun a b c h1 h2=>by rw[q9l]at *;omega⟩
theorem z9s(V:Nat->Vd)(x:Pw):∀ k,x∈z4G V k↔∃ i:Nat,i<k/\x=((i:Int),pwr (V i))/\0<pwr (V i)/\(V i).jail=false
 | 0=>by simp[z4G]
 | k+1=>by
  rw[z4G];have ih:=z9s V x k
  split
  ·rename_i h;simp only[Bool.and_eq_true,decide_eq_true_eq,Bool.not_eq_true']at h;rw[List.mem_append,ih,List.mem_singleton]
   constructor
   ·rintro (⟨i,hi,h1⟩ | rfl)
    ·exact ⟨i,by omega,h1⟩
    ·exact ⟨k,by omega,rfl,h.1,h.2⟩
   ·rintro ⟨i,hi,h1⟩
    rcases Nat.lt_or_ge i k with h2 | h2
    ·exact .inl ⟨i,h2,h1⟩
    ·obtain rfl:i=k:=by omega
     exact .inr h1.1
  ·rename_i h;simp only[Bool.and_eq_true,decide_eq_true_eq,Bool.not_eq_true']at h;rw[ih]
   constructor
   ·rintro ⟨i,hi,h1⟩;exact ⟨i,by omega,h1⟩
   ·rintro ⟨i,hi,h1⟩
    rcases Nat.lt_or_ge i k with h2 | h2
    ·exact ⟨i,h2,h1⟩
    ·obtain rfl:i=k:=by omega
     exact absurd h1.2 h
theorem z5V(V:Nat->Vd):∀ k,(z4G V k).Pairwise (fun a b=>a.1≠b.1)
 | 0=>List.Pairwise.nil
 | k+1=>by
  rw[z4G]
  split
  ·rw[List.pairwise_append];refine ⟨z5V V k,List.pairwise_singleton _ _,fun a ha b hb=>?_⟩;rw[z9s]at ha;obtain ⟨i,hi,rfl,_⟩:=ha;rw[List.mem_singleton]at hb;subst hb
   show (i:Int)≠(k:Int)
   omega
  ·exact z5V V k
theorem j4r(V:Nat->Vd)(x:Pw):x∈z7Y V↔x∈(z2m ltP (z4G V 6)).take 4:=(z3v _ _).mem_iff
theorem j5W(V:Nat->Vd)(x:Pw)(h:x∈z7Y V):∃ i:Nat,i<6/\x=((i:Int),pwr (V i))/\0<pwr (V i)/\(V i).jail=false:=by
 rw[j4r]at h;exact (z9s V x 6).1 ((z3v _ _).mem_iff.1 (List.mem_of_mem_take h))
end
end Go.Proofs.YtmopekkhmhhcaaaGreat
