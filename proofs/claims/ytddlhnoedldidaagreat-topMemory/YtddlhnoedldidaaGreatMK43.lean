/- Parts of the proof. -/
import Derived.Test.YtddlhnoedldidaaGreatML
import Derived.Test.YtddlhnoedldidaaGreatMK21
import Derived.Test.YtddlhnoedldidaaGreatMK31
set_option maxRecDepth 100000
set_option maxHeartbeats 16000000
namespace Go.Proofs.YtddlhnoedldidaaGreat
open Go.Proofs.Tryz
open Value renaming int->J,slice->J1,pointer->J2,bool->J3,agg->J4
open IntKind renaming i64->I
open Obj renaming cells->J5
namespace Pv
open Go.RowKit
theorem z9M{α:Type}{l:List α}{k:Nat}(h:k<l.length):∃ x,l[k]?=some x/\l.drop k=x :: l.drop (k+1):=⟨l[k],List.getElem?_eq_getElem h,List.drop_eq_getElem_cons h⟩
theorem q5Q(a b:List (Int×Int))(u v:Value)(P P':Nat->Prop)(w:World)(hu:Rep P w u 2 16 (pwC a))(Q:Rep P' w v 2 16 (pwC b)) :
  Calls prog 115 #[u,v] w fun e w'=>e=.returned (J3 (decide (a=b)))/\Bl w w':=by
 obtain⟨A,C,rfl,Y,-,hc,-⟩:=hu.open (z0c _) (by decide)
 obtain⟨A',C',rfl,H,-,n,-⟩:=Q.open (z0c _) (by decide)
 have Z:=J6 hc;have K:=J6 n;have a0:a.length<=8796093022202:=by omega
 have a1:b.length<=8796093022202:=by omega
 obtain⟨G,L⟩:∃ G,decide (a=b)=G:=⟨_,rfl⟩;have M:=J6 L;rw[L];clear hc n hu Q Y H L
 go_enter func115,ntmps115
 by_cases R:a.length=b.length
 ·have m:(a.length:Int)=(b.length:Int):=by omega
  have o:((a.length:Int) != (b.length:Int))=false:=by simpa using m
  go_upto_region 4 with fail
  go_loopw [13] (fun i wl=>∃ (k:Nat),k<=a.length/\i=J I (k:Int)/\Hid (G=decide (a.drop k=b.drop k)/\Bl w wl)) (fun i _=>a.length - (intOf i).toNat)
  case atStart=>exact⟨0,Nat.zero_le _,rfl,by rw[List.drop_zero,List.drop_zero];exact M.out.symm,Below.refl _ _⟩
  case round =>
   obtain⟨k,hk,rfl,c⟩:=hrel
   by_cases q:k<a.length
   ·have a2:(k:Int)<(a.length:Int):=by omega
    have a3:(k:Int)<(b.length:Int):=by omega
    obtain⟨x,S,hd⟩:=z9M q;obtain⟨y,T,r⟩:=z9M (l:=b) (k:=k) (by omega)
    obtain⟨t,z,rfl,-,s,hcell⟩:=Z.out (by omega)
    obtain⟨bb,B,rfl,-,g,hcell'⟩:=K.out (by omega)
    have U:a.getD k (0,0)=x:=by simp[List.getD,S]
    have V:b.getD k (0,0)=y:=by simp[List.getD,T]
    obtain⟨p0,p1⟩:=z1U a k q;obtain⟨q0,q1⟩:=z1U b k (by omega)
    rw[U]at p0 p1;rw[V]at q0 q1;have c0:wr.cell? ⟨t,z+k * 2,none⟩=some (J I x.1):=(c.out.2.cell (p:=⟨t,z+k * 2,none⟩) s).trans (hcell _ _ p0);have c1:wr.cell? ⟨t,z+k * 2+1,none⟩=some (J I x.2):=(c.out.2.cell (p:=⟨t,z+k * 2+1,none⟩) s).trans (hcell _ _ p1);have d0:wr.cell? ⟨bb,B+k * 2,none⟩=some (J I y.1):=(c.out.2.cell (p:=⟨bb,B+k * 2,none⟩) g).trans (hcell' _ _ q0);have d1:wr.cell? ⟨bb,B+k * 2+1,none⟩=some (J I y.2):=(c.out.2.cell (p:=⟨bb,B+k * 2+1,none⟩) g).trans (hcell' _ _ q1);have D:Hid (G=decide (x :: a.drop (k+1)=y :: b.drop (k+1))):=by have:=c.out.1;rw[hd,r]at this;exact this
    have j:=J6 c.out.2;clear c hd r S T U V p0 p1 q0 q1 hcell hcell';obtain⟨E,W⟩:=x;obtain⟨F,X⟩:=y;dsimp only at c0 c1 d0 d1
    by_cases d:E=F/\W=X
    ·obtain⟨rfl,rfl⟩:=d;have f:Hid (G=decide (a.drop (k+1)=b.drop (k+1))):=by rw[Hid,D.out];simp
     clear D
     go_upto_region 6 with fail
     go_quiet (fail);simp only[Exit.then];apply_assumption;go_wp2
     first | exact⟨⟨k+1,by omega,by go_num,f.out,below_drewN j.out _⟩,by simp[intOf];omega⟩ | exact⟨⟨k+1,by omega,by go_num,f.out,j.out⟩,by simp[intOf];omega⟩ | ((repeat apply Exists.intro);exact⟨⟨k+1,by omega,by go_num,f.out,below_drewN j.out _⟩,rfl⟩) | ((repeat apply Exists.intro);exact⟨⟨k+1,by omega,by go_num,f.out,j.out⟩,rfl⟩)
    ·have e:G=false:=by
      rw[D.out];refine decide_eq_false fun h=>d ?_;have:=(List.cons.inj h).1;exact⟨congrArg Prod.fst this,congrArg Prod.snd this⟩
     subst e
     have N:E≠F∨(E=F/\W≠X):=by
      by_cases h:E=F
      ·exact .inr ⟨h,fun h2=>d ⟨h,h2⟩⟩
      ·exact .inl h
     clear D d M
     rcases N with h1 | ⟨rfl,h2⟩
     ·go_upto_region 6 with fail
      go_quiet (fail);simp only[Exit.then];apply_assumption;go_wp2;go_ret
      first | exact⟨rfl,below_drewN j.out _⟩ | exact⟨rfl,j.out⟩
     ·go_upto_region 6 with fail
      go_quiet (fail);simp only[Exit.then];apply_assumption;go_wp2;go_ret
      first | exact⟨rfl,below_drewN j.out _⟩ | exact⟨rfl,j.out⟩
   ·obtain rfl:k=a.length:=by omega
    have e:G=true:=by have:=c.out.1;rw[List.drop_length,R,List.drop_length]at this;simpa using this
    subst e;go_wp2;go_ret;exact⟨rfl,c.out.2⟩
 ·have m:¬ ((a.length:Int)=(b.length:Int)):=by omega
  have o:((a.length:Int) != (b.length:Int))=true:=by simpa using m
  have e:G=false:=by rw[<- M.out];exact decide_eq_false fun h=>R (by rw[h])
  subst e;go_wp2;go_ret;exact⟨rfl,Below.refl _ _⟩
theorem j4F:(prog.info? 65).map (fun i=>(i.zero,i.size,i.bytes))=some (some (J4 #[J I 0,J I 0]),2,16):=by kernel_rfl
theorem z7k(w:World)(a:Option Addr)(n c:Nat):(binOp .eql 44 (J1 a n c) (J1 none 0 0)).run prog w=.ok (J3 a.isNone) w:=by
 simp[binOp,run_equal_slice_nil w 44 65 a n c underlying44]
theorem z9r(w:World):(w.alloc (J5 #[] 65)).ownsRow w.heap.size 65 2 (J1 (some ⟨w.heap.size,0,none⟩) 0 0) 0 []:=⟨rfl,.inr ⟨w.heap.size,0,#[],rfl,Nat.le_refl _,heap_alloc_new _ _,Nat.le_refl _,Nat.zero_le _,rfl,rfl⟩⟩
theorem z7B{P:Nat->Prop}(w:World)(a:Addr)(c:Nat)(l:List (Int×Int))(h:Rep P w (J1 (some a) l.length c) 2 16 (pwC l)) :
  ∃ A C w',(Builtin.append_ #[44,44] 44 #[J1 (some ⟨w.heap.size,0,none⟩) 0 0,J1 (some a) l.length c]).run prog (w.alloc (J5 #[] 65))=.ok (J1 A l.length C) w'/\w'.ownsRow w.heap.size 65 2 (J1 A l.length C) l.length (pwC l)/\Bl w w':=by
 obtain⟨i0,n,d,e,f⟩:=info_parts j4F;obtain⟨v,C0,o,x,-,-,i⟩:=(h.over (znw w (J5 #[] 65))).open (z0c l) (by decide)
 cases o
 obtain⟨v',w',p,m,b,-,q⟩:=run_append_own_at (P:=prog) (w.alloc (J5 #[] 65)) w.heap.size 44 44 65 i0 _ 2 16 underlying44 n d e f rfl (by omega) _ 0 [] (z9r w) a l.length c (pwC l) (z0c l)
  (fun j u r=>i a rfl j u r) (z2X l) (by simp only[maxLen];omega) (by omega) (by simp)
 rw[Nat.zero_add,List.nil_append]at m
 have s:∃ A C,v'=J1 A l.length C:=by
  rcases m.2 with⟨rfl,h0⟩ | ⟨g,cap,cur,rfl,_⟩
  ·rw[h0];exact⟨none,0,rfl⟩
  ·exact⟨_,_,rfl⟩
 obtain⟨A,C,rfl⟩:=s;refine⟨A,C,w',p,m,?_⟩;have hb:=(Below.refl w.heap.size w).alloc (Nat.le_refl _) (J5 #[] 65);exact⟨b.os.trans hb.os,b.tape.trans hb.tape,b.output.trans hb.output,Nat.le_trans hb.size b.size,fun k t=>(b.block k (by simp;omega) (by simp[Value.ownBlock];omega)).trans (hb.block k t)⟩
theorem z4E{P:Nat->Prop}{ops:Array Oper}{rest:List Oper}{o:Oper}{a:Act}{w:World}{Q:Exit->Act->World->Prop}(f:o.guard=none)(b:o.type=44)(p q:Operand)
  (d:o.op=Op.call { callee:=Callee.builtin Builtin.append,args:=#[p,q],argTypes:=#[44,44] }) (ad:Addr) (c:Nat) (l:List (Int×Int)) (g:a.eval p=J1 (some ⟨w.heap.size,0,none⟩) 0 0) (h:a.eval q=J1 (some ad) l.length c) (i:Rep P w (J1 (some ad) l.length c) 2 16 (pwC l))
  (j:∀ A C w',w'.ownsRow w.heap.size 65 2 (J1 A l.length C) l.length (pwC l)/\Bl w w'->wpList prog ops Q rest (a.put o.dst (J1 A l.length C)) w'):wpList prog ops Q (o :: rest) a (w.alloc (J5 #[] 65)):=by
 refine wpList_plain f fun _ e=>?_;unfold Oper.wp;obtain⟨A,C,w',k,h1⟩:=z7B w ad c l i
 simp[execOp,d,resolve,invoke,builtin,g,h,b,k,Result.andThen]
 exact e _ _ (j _ _ _ h1)
theorem z6m(l:List (Int×Int))(v:Value)(P:Nat->Prop)(w:World)(h:Rep P w v 2 16 (pwC l)) :
  Calls prog 39 #[v] w fun e w'=>∃ u,e=.returned u/\Rep (fun b=>w.heap.size<=b) w' u 2 16 (pwC l)/\Bl w w':=by
 obtain⟨A,C,rfl,j,h0,-,-⟩:=id (h.open (z0c l) (by decide))
 cases A with
 | none =>
  obtain⟨c,rfl⟩:=h0 rfl;obtain rfl:l=[]:=List.length_eq_zero_iff.1 c;have d:=fun w=>z7k w none 0 0;clear h h0
  go_enter func39,ntmps39
  go_wp2;go_ret;exact⟨_,rfl,Rep.nil _ _ _ _,Below.refl _ _⟩
 | some a =>
  have d:=fun w=>z7k w (some a) l.length C;have f:=J6 h;clear h h0
  go_enter func39,ntmps39
  go_upto_region 3 with fail
  apply wp_region_lit
  iterate 6 go_step
  refine z4E rfl rfl _ _ rfl a C l rfl rfl f.out ?_;rintro A' C' w'⟨h1,h2⟩;have g:=J6 h1;have i:=J6 h2;clear h1 h2;go_wp2;go_ret;exact⟨_,rfl,Rep.own g.out (by omega),i.out⟩
end Pv
section
open Go.RowKit
theorem q0a{s:St}{d v n:Int}(h:z0T s d v≠0):z0O s d v n=(s,z0T s d v):=if_neg h
theorem z8s{s:St}{d v n:Int}(h:z0T s d v=0)(h1:(s.V v.toNat).dead=true):z0O s d v n=(s,15):=by rw[z0O,if_pos h,if_pos h1]
theorem z7w{s:St}{d v n:Int}(h:z0T s d v=0)(h1:(s.V v.toNat).dead=false)(h2:(decide (0<n) && inA n)=false):z0O s d v n=(s,2):=by rw[z0O,if_pos h,if_neg (by simp[h1]),if_neg (by simp[h2])]
theorem q0N{s:St}{d v n:Int}(h:z0T s d v=0)(h1:(s.V v.toNat).dead=false)(h2:(decide (0<n) && inA n)=true)(h3:shE (s.V v.toNat) n≠0):z0O s d v n=(s,shE (s.V v.toNat) n):=by rw[z0O,if_pos h,if_neg (by simp[h1]),if_pos h2,if_neg h3]
theorem z8S{s:St}{d v n:Int}(h:z0T s d v=0)(h1:(s.V v.toNat).dead=false)(h2:(decide (0<n) && inA n)=true)(h3:shE (s.V v.toNat) n=0)(a:(z2n s.b d n).2≠0):z0O s d v n=(s,(z2n s.b d n).2):=by rw[z0O,if_pos h,if_neg (by simp[h1]),if_pos h2,if_pos h3,if_neg a]
theorem q2J{s:St}{d v n:Int}(h:z0T s d v=0)(h1:(s.V v.toNat).dead=false)(h2:(decide (0<n) && inA n)=true)(h3:shE (s.V v.toNat) n=0)(a:(z2n s.b d n).2=0):z0O s d v n=(q3E { s with b:=(z2n s.b d n).1 } d.toNat v.toNat n (shN (s.V v.toNat) n),0):=by rw[z0O,if_pos h,if_neg (by simp[h1]),if_pos h2,if_pos h3,if_pos a]
theorem z9l{s:St}{d v:Int}(h:z0T s d v=0):z0m s=true/\(0<=v/\v<6)/\(0<=d/\d<4):=by
 unfold z0T z5P at h
 repeat' split at h
 all_goals first | (simp_all [z2W,z4V];done) | omega
theorem z4c{s:St}(h:z0m s=true)(k:Nat)(a:k<6):vOk (s.V k)=true/\z3f s.S k 4=true:=by
 unfold z0m at h;simp only[Bool.and_eq_true]at h;have:=q3C h.1.2 a;unfold j2z q4S at this;simp only[Bool.and_eq_true]at this;exact⟨this.1,this.2.1⟩
theorem z6t{S:Nat->Nat->Int}{v d:Nat}(h:z3f S v 4=true)(hd:d<4):inA (S d v)=true:=by
 simp only[z3f,Bool.and_eq_true]at h
 rcases (show d=0∨d=1∨d=2∨d=3 by omega) with rfl | rfl | rfl | rfl
 ·exact h.1.1.1.2
 ·exact h.1.1.2
 ·exact h.1.2
 ·exact h.2
theorem j6e(s:St)(sl:Value)(x:Int):(stC s sl).setIfInBounds 0 (J I x)=stC { s with b:={ s.b with f0:=x } } sl:=rfl
theorem j6n(s:St)(sl:Value)(x:Int):(stC s sl).setIfInBounds 1 (J I x)=stC { s with b:={ s.b with f1:=x } } sl:=rfl
theorem j6S(s:St)(sl:Value)(x:Int):(stC s sl).setIfInBounds 2 (J I x)=stC { s with b:={ s.b with f2:=x } } sl:=rfl
theorem j7d(s:St)(sl:Value)(x:Int):(stC s sl).setIfInBounds 3 (J I x)=stC { s with b:={ s.b with f3:=x } } sl:=rfl
theorem j5z(s:St)(sl:Value)(x:Int):(stC s sl).setIfInBounds 4 (J I x)=stC { s with b:={ s.b with bo:=x } } sl:=rfl
theorem j6Q(s:St)(sl:Value)(x:Int):(stC s sl).setIfInBounds 5 (J I x)=stC { s with b:={ s.b with wa:=x } } sl:=rfl
theorem j6L(s:St)(sl:Value)(x:Int):(stC s sl).setIfInBounds 6 (J I x)=stC { s with b:={ s.b with bu:=x } } sl:=rfl
def z6h(w:World)(b:Nat)(x:Bk):World:=((((((w.setCell ⟨b,0,none⟩ (J I x.f0)).setCell ⟨b,1,none⟩ (J I x.f1)).setCell ⟨b,2,none⟩ (J I x.f2)).setCell ⟨b,3,none⟩ (J I x.f3)).setCell ⟨b,4,none⟩ (J I x.bo)).setCell ⟨b,5,none⟩ (J I x.wa)).setCell ⟨b,6,none⟩ (J I x.bu)
theorem SAt.z6h{w:World}{b c:Nat}{cs:Array Value}(h:SAt w c cs)(hc:c≠b)(x:Bk):SAt (Go.Proofs.YtddlhnoedldidaaGreat.z6h w b x) c cs:=((((((h.other hc _).other hc _).other hc _).other hc _).other hc _).other hc _).other hc _
theorem q3T{B b:Nat}{w w':World}(h:Below B w w')(a:B<=b)(x:Bk):Below B w (z6h w' b x):=((((((h.setCell a _).setCell a _).setCell a _).setCell a _).setCell a _).setCell a _).setCell a _
theorem z6O{w:World}{b:Nat}{s:St}{sl:Value}(h:SAt w b (stC s sl))(x:Bk):SAt (z6h w b x) b (stC { s with b:=x } sl):=by
 have h0:=h.set 0 (J I x.f0);rw[j6e]at h0;have h1:=h0.set 1 (J I x.f1);rw[j6n]at h1;have h2:=h1.set 2 (J I x.f2);rw[j6S]at h2;have h3:=h2.set 3 (J I x.f3);rw[j7d]at h3;have a:=h3.set 4 (J I x.bo);rw[j5z]at a;have c:=a.set 5 (J I x.wa);rw[j6Q]at c;have d:=c.set 6 (J I x.bu);rw[j6L]at d;exact d
theorem q8p(x:Vd){n:Int}(a:n<=1125899906842624):shN x n<=1125899906842624/\(0<=n->0<=shN x n):=by
 have:=z4f n x.sh x.tok;unfold shN
 split
 ·omega
 ·split
  ·omega
  ·split <;> omega
theorem z4U{s:St}{d v:Nat}(a:z0m s=true)(hd:d<4)(b:v<6):z0T s d v=0:=by
 unfold z0T z5P;rw[a,z2W.2 (show (0:Int)<=v/\(v:Int)<6 by omega),z4V.2 (show (0:Int)<=d/\(d:Int)<4 by omega)]
 rfl
section
variable {f:Func} {w w1:World} {s:St} {ao:Option Addr} {n c:Nat}
end
theorem j1a(s:St)(ao:Option Addr)(sb so c:Nat)(d v n:Int)(w:World)(g:z2k w ao sb so s.W)(r:St×Int)(h0:z0T s d v≠0)(h:r=(s,z0T s d v)) :
  Calls prog 68 #[J4 (stC s (J1 ao s.W.length c)),J I d,J I v,J I n] w fun e w'=>e=.returned (.tuple #[J4 (stC r.1 (J1 ao s.W.length c)),J I r.2])/\Bl w w':=by
 have a:=(SAt.new w (stC s (J1 ao s.W.length c))).alloc (J5 Z63 43);have RR:=SAt.new2 w (J5 (stC s (J1 ao s.W.length c)) 43) Z63;have b:Hid (Bl w ((w.alloc (J5 (stC s (J1 ao s.W.length c)) 43)).alloc (J5 Z63 43))):=(znw w _).alloc (by simp) _
 have j:=J6 g;have k:=J6 h;clear g h
 go_enter func68,ntmps68
 go_upto_region 1 with fail
 change Code.wp prog _ _ _ ((w.alloc (J5 (stC s (J1 ao s.W.length c)) 43)).alloc (J5 Z63 43));generalize (w.alloc (J5 (stC s (J1 ao s.W.length c)) 43)).alloc (J5 Z63 43)=w0 at *
 go_upto_region 2 with (go_at_call 98;refine (z2q s ao sb so c w.heap.size d v _ a (by exact j.out.over b.out)).mono ?_;rintro e w1⟨rfl,h1⟩)
 have f:Hid (Bl w w1):=zbt b.out h1;have l:=a.later h1 a.lt;have i:=RR.later h1 RR.lt;clear a RR h1 b
 go_upto_region 3 with fail
 apply wp_region_lit;refine wpList_load_mid rfl 43 _ rfl _ 0 rfl _ _ l.range underlying43 rfl (by rw[z0x];rfl) ?_
 refine z1D rfl _ rfl ?_;refine wpList_store_mid rfl 43 _ _ rfl _ 0 (stC s (J1 ao s.W.length c)) rfl rfl (i.there 0 _ (by rw[z0q,z0f];omega)) (by rw[z0x];rfl) (z0y _ _ _ _) ?_
 go_wp2;exact z0F results68 i rfl f.out (by omega) s _ _ r k.out _ rfl rfl rfl
theorem q8a(s:St)(ao:Option Addr)(sb so c d v:Nat)(n:Int)(w:World)(hW:z2k w ao sb so s.W)(r:St×Int)(hg:z0m s=true)(hd:d<4)(P:v<6)(B:Bk)(q:Int)
  (a:∀ w:World,Calls prog 101 #[J4 #[J I s.b.f0,J I s.b.f1,J I s.b.f2,J I s.b.f3,J I s.b.bo,J I s.b.wa,J I s.b.bu],J I (d:Int),J I n] w fun e w'=>e=.returned (.tuple #[J4 #[J I B.f0,J I B.f1,J I B.f2,J I B.f3,J I B.bo,J I B.wa,J I B.bu],J I q])/\Bl w w')
  (h1:(s.V v).dead=true->r=(s,15)) (h2:(s.V v).dead=false->(decide (0<n) && inA n)=false->r=(s,2))
  (h3:(s.V v).dead=false->(decide (0<n) && inA n)=true->shE (s.V v) n≠0->r=(s,shE (s.V v) n))
  (h4:(s.V v).dead=false->(decide (0<n) && inA n)=true->shE (s.V v) n=0->q≠0->r=(s,q))
  (h5:(s.V v).dead=false->(decide (0<n) && inA n)=true->shE (s.V v) n=0->q=0->r=(q3E { s with b:=B } d v n (shN (s.V v) n),0)) :
  Calls prog 68 #[J4 (stC s (J1 ao s.W.length c)),J I (d:Int),J I (v:Int),J I n] w fun e w'=>e=.returned (.tuple #[J4 (stC r.1 (J1 ao s.W.length c)),J I r.2])/\Bl w w':=by
 have Q:=(SAt.new w (stC s (J1 ao s.W.length c))).alloc (J5 Z63 43);have RR:=SAt.new2 w (J5 (stC s (J1 ao s.W.length c)) 43) Z63;have S:Hid (Bl w ((w.alloc (J5 (stC s (J1 ao s.W.length c)) 43)).alloc (J5 Z63 43))):=(znw w _).alloc (by simp) _
 have HW:=J6 hW;have H1:=J6 h1;have H2:=J6 h2;have H3:=J6 h3;have H4:=J6 h4;have H5:=J6 h5;obtain⟨k,y⟩:=z4c hg v P;have hS:=z8H n;have a2:=z4U hg hd P;have a3:(d:Int)<4:=by omega
 have a4:(v:Int)<6:=by omega
 have hd0:(0:Int)<=(d:Int):=by omega
 have a5:(0:Int)<=(v:Int):=by omega
 have z:=fun w b o (T:n<=1125899906842624)=>z9D b o (s.V v) n w T k;have U:=fun w h=>z2q s ao sb so c w.heap.size d v w h;clear hW h1 h2 h3 h4 h5
 go_enter func68,ntmps68
 go_upto_region 1 with fail
 change Code.wp prog _ _ _ ((w.alloc (J5 (stC s (J1 ao s.W.length c)) 43)).alloc (J5 Z63 43));generalize (w.alloc (J5 (stC s (J1 ao s.W.length c)) 43)).alloc (J5 Z63 43)=w0 at *
 go_upto_region 2 with (go_at_call 98;refine (z2q s ao sb so c w.heap.size d v _ Q (by exact HW.out.over S.out)).mono ?_;rintro e w1⟨rfl,h1⟩)
 have g:Hid (Bl w w1):=zbt S.out h1;have l:=Q.later h1 Q.lt;have i:=RR.later h1 RR.lt;obtain⟨A,C,D,E,F,G,H,K,L⟩:=z0r l;obtain⟨c0,c1,c2,c3,c4⟩:=l.val v P;have a6:w.heap.size+1<w1.heap.size:=i.lt;have X:Hid ((decide (0<n) && inA n)=true->0<n/\n<=1125899906842624):=fun h=>by simp only[Bool.and_eq_true,decide_eq_true_eq,z0A]at h;omega
 generalize (decide (0<n) && inA n)=t at *;clear Q RR h1 S K L U c2 c3;generalize Y:(s.V v).dead=dd at *;clear Y
 go_upto_region 15 with (first
  | (go_at_call 99;refine (hS _).mono ?_;rintro e w2⟨rfl,rfl⟩)
  | (go_at_call 100;refine (z _ _ _ (by exact (X.out (by simpa using ‹(!t)=false›)).2) c0 c1).mono ?_;rintro e w2⟨rfl,h2⟩;have m:Hid (Bl w w2):=g.out.trans (h2.mono (by omega));have M:=l.later h2 l.lt;have u:=i.later h2 i.lt;clear A C D E F G H;obtain⟨A,C,D,E,F,G,H,K,L⟩:=z0r M;have a7:=u.lt;clear h2 K L)
  | (go_at_call 101;refine (a _).mono ?_;rintro e x⟨rfl,h3⟩;have N:Hid (Bl w x):=m.out.trans (h3.mono (by omega));have S3:=M.later h3 M.lt;have Z:=u.later h3 u.lt;have a8:w.heap.size+1<x.heap.size:=Z.lt;have f:=S3.alloc (J5 #[J I B.f0,J I B.f1,J I B.f2,J I B.f3,J I B.bo,J I B.wa,J I B.bu] 35);have R:=Z.alloc (J5 #[J I B.f0,J I B.f1,J I B.f2,J I B.f3,J I B.bo,J I B.wa,J I B.bu] 35);have p:Hid (Bl w (x.alloc (J5 #[J I B.f0,J I B.f1,J I B.f2,J I B.f3,J I B.bo,J I B.wa,J I B.bu] 35))):=N.out.alloc (by omega) _;clear h3 A C D E F G H S3 Z)
  | ((fail_if_success (go_not_at_region 6));apply wp_region_lit;refine wpList_load_mid rfl 43 _ rfl _ 0 rfl _ _ l.range underlying43 rfl (by rw[z0x];rfl) ?_;refine wpList_store_mid rfl 43 _ _ rfl _ 0 (stC s (J1 ao s.W.length c)) rfl rfl (i.there 0 _ (by rw[z0q,z0f];omega)) (by rw[z0x];rfl) (z0y _ _ _ _) ?_)
  | ((fail_if_success (go_not_at_region 8));apply wp_region_lit;refine wpList_load_mid rfl 43 _ rfl _ 0 rfl _ _ l.range underlying43 rfl (by rw[z0x];rfl) ?_;refine wpList_store_mid rfl 43 _ _ rfl _ 0 (stC s (J1 ao s.W.length c)) rfl rfl (i.there 0 _ (by rw[z0q,z0f];omega)) (by rw[z0x];rfl) (z0y _ _ _ _) ?_)
  | ((fail_if_success (go_not_at_region 11));apply wp_region_lit;refine wpList_load_mid rfl 43 _ rfl _ 0 rfl _ _ M.range underlying43 rfl (by rw[z0x];rfl) ?_;refine z1D rfl _ rfl ?_;refine wpList_store_mid rfl 43 _ _ rfl _ 0 (stC s (J1 ao s.W.length c)) rfl rfl (u.there 0 _ (by rw[z0q,z0f];omega)) (by rw[z0x];rfl) (z0y _ _ _ _) ?_)
  | ((fail_if_success (go_not_at_region 14));apply wp_region_lit;refine wpList_load_mid rfl 43 _ rfl _ 0 rfl _ _ f.range underlying43 rfl (by rw[z0x];rfl) ?_;refine z1D rfl _ rfl ?_;refine wpList_store_mid rfl 43 _ _ rfl _ 0 (stC s (J1 ao s.W.length c)) rfl rfl (R.there 0 _ (by rw[z0q,z0f];omega)) (by rw[z0x];rfl) (z0y _ _ _ _) ?_))
 ·exact z0F results68 i rfl g.out (by omega) s _ _ r (H1.out ‹dd=true›) _ rfl rfl rfl
 ·exact z0F results68 i rfl g.out (by omega) s _ _ r (H2.out ‹dd=false› (by simpa using ‹(!t)=true›)) _ rfl rfl rfl
 ·exact z0F results68 u rfl m.out (by omega) s _ _ r (H3.out ‹dd=false› (by simpa using ‹(!t)=false›) (by simpa using ‹(shE (s.V v) n != 0)=true›)) _ rfl rfl rfl
 ·exact z0F results68 R rfl p.out (by omega) s _ _ r (H4.out ‹dd=false› (by simpa using ‹(!t)=false›) (by simpa using ‹(shE (s.V v) n != 0)=false›) (by simpa using ‹(q != 0)=true›)) _ rfl rfl rfl
 ·have HR:Hid (r=(q3E { s with b:=B } d v n (shN (s.V v) n),0)):=H5.out ‹dd=false› (by simpa using ‹(!t)=false›) (by simpa using ‹(shE (s.V v) n != 0)=false›) (by simpa using ‹(q != 0)=false›)
  have T:=X.out (by simpa using ‹(!t)=false›)
  obtain⟨k1,k2,k3⟩:=z2e k;have k4:=z6t y hd;rw[z0A]at k1 k2 k4;have k5:=q8p (s.V v) T.2;obtain⟨A,C,D,E,F,G,H,K,L⟩:=z0r f;have f0:=f.free 0;have f1:=f.free 1;have f2:=f.free 2;have f3:=f.free 3;have f4:=f.free 4;have f5:=f.free 5;have f6:=f.free 6;have a9:w.heap.size≠x.heap.size:=by omega
  clear H1 H2 H3 H4 H5 X a z hS c0 c1 c4 K L l M i u g m k y k3
  go_upto_region 16 with fail
  change Code.wp prog _ _ _ (z6h (x.alloc (J5 #[J I B.f0,J I B.f1,J I B.f2,J I B.f3,J I B.bo,J I B.wa,J I B.bu] 35)) w.heap.size B);have S5:=z6O f B;have R5:=R.z6h (b:=w.heap.size) (by omega) B
  have a0:=J6 (q3T p.out (Nat.le_refl _) B);generalize z6h (x.alloc (J5 #[J I B.f0,J I B.f1,J I B.f2,J I B.f3,J I B.bo,J I B.wa,J I B.bu] 35)) w.heap.size B=w5 at *;have hA:=q3m { s with b:=B } (J1 ao s.W.length c) w.heap.size d v n (shN (s.V v) n) w5 S5 hd P (by simp only;omega) (by simp only;omega) (by simp only;omega)
  clear A C D E F G H f0 f1 f2 f3 f4 f5 f6 f R N p S5
  go_upto_region 17 with (go_at_call 102;refine hA.mono ?_;rintro e w6⟨rfl,S6,j⟩)
  have R6:=j.z1g (by omega) R5
  have a1:=J6 (a0.out.trans (j.below (Nat.le_refl _)));apply wp_region_lit;refine wpList_load_mid rfl 43 _ rfl _ 0 rfl _ _ S6.range underlying43 rfl (by rw[z0x];rfl) ?_
  refine wpList_store_mid rfl 43 _ _ rfl _ 0 (stC (q3E { s with b:=B } d v n (shN (s.V v) n)) (J1 ao s.W.length c)) rfl rfl (R6.there 0 _ (by rw[z0q,z0f];omega)) (by rw[z0x];rfl) (z0y _ _ _ _) ?_
  go_wp2;exact z0F results68 R6 rfl a1.out (by omega) _ _ _ r HR.out _ rfl rfl rfl
theorem q7i(s:St)(ao:Option Addr)(sb so c:Nat)(d v n:Int)(w:World)(a:z2k w ao sb so s.W) :
  Calls prog 68 #[J4 (stC s (J1 ao s.W.length c)),J I d,J I v,J I n] w fun e w'=>e=.returned (.tuple #[J4 (stC (z0O s d v n).1 (J1 ao s.W.length c)),J I (z0O s d v n).2])/\Bl w w':=by
 by_cases h:z0T s d v=0
 ·obtain⟨f,⟨v0,v1⟩,g,i⟩:=z9l h;obtain⟨v,rfl⟩:=Int.eq_ofNat_of_zero_le v0;obtain⟨d,rfl⟩:=Int.eq_ofNat_of_zero_le g;exact q8a s ao sb so c d v n w a _ f (by omega) (by omega) _ _ (j0k s.b d n) (z8s h) (z7w h) (q0N h) (z8S h) (q2J h)
 ·exact j1a s ao sb so c d v n w a _ h (q0a h)
end
section
open Go.RowKit
def j2q(s:St)(d v:Nat)(a n:Int)(B:Bk)(x:Wt):St:={ q3E { s with b:=B } d v (-a) (-n) with W:=s.W ++ [x],next:=s.next+1 }
def z0S(s:St)(d v n:Int)(y:Wt):St×Int:=
 if z0T s d v=0 then
  if (decide (0<n) && inA n)=true/\0<=y.hei/\0<=y.due then
   if n<=s.S d.toNat v.toNat then
    if s.W.length<60/\s.next<1125899906842624 then
     if woE (s.V v.toNat) n=0 then
      if (z0X s.b (woN (s.V v.toNat) n)).2=0 then (j2q s d.toNat v.toNat (woN (s.V v.toNat) n) n (z0X s.b (woN (s.V v.toNat) n)).1 { y with num:=s.next,d:=d,v:=v,amt:=woN (s.V v.toNat) n },0)
      else (s,(z0X s.b (woN (s.V v.toNat) n)).2)
     else (s,woE (s.V v.toNat) n)
    else (s,6)
   else (s,7)
  else (s,2)
 else (s,z0T s d v)
def z5y(B sb:Nat)(w:World)(r:St×Int)(e:Ending)(w':World):Prop:=∃ A a ao C,e=.returned (.tuple #[J4 (stC r.1 (J1 A r.1.W.length C)),J I r.2])/\r.1.W.length<=C/\z2k w' A a ao r.1.W/\(0<r.1.W.length->a<w'.heap.size/\(a=sb∨B<=a))/\Below B w w'
theorem z1z{f:Func}{p q:Tmp}(b:f.results=#[.cell p 43,.tmp q]){B g sb:Nat}{w wq:World}{j:Array Value}(R:SAt wq g j)(k:j.size=63)(H:Below B w wq)(l:B<=g)(a:St)(A:Option Addr)(c ao C:Nat)(i:Int)(r:St×Int)(m:r=(a,i))(n:a.W.length<=C)(o:z2k wq A c ao a.W)(s:0<a.W.length->c≠g)(t:0<a.W.length->c=sb∨B<=c)(act:Act)
  (u:act.tmps.getD p undef=J2 (some ⟨g,0,none⟩)) (x:act.tmps.getD q undef=J I i) (hd:act.defers=[]) :
  bodyPost prog f (fun e w'=>z5y B sb w r e w') Exit.ret act (wq.setCells g 0 (stC a (J1 A a.W.length C)).toList):=by
 subst m;have y:=R.z0t (ds:=stC a (J1 A a.W.length C)) (by rw[k];rfl)
 have d:=o.sets s (stC a (J1 A a.W.length C)).toList 0;exact bodyPost_ret (v:=.tuple #[J4 (stC a (J1 A a.W.length C)),J I i]) (z4P b _ _ g _ _ u x y rfl) hd ⟨A,c,ao,C,rfl,n,d,fun h=>⟨d.lt h,t h⟩,z0a l _ _ _ H⟩
def YAt(w:World)(y:Nat)(x:Wt):Prop:=w.heap[y]?=some (J5 #[J I x.num,J I x.d,J I x.v,J I x.amt,J I x.hei,J I x.due,J I x.h0,J I x.h1] 63)
theorem YAt.later{w w':World}{y B:Nat}{x:Wt}(h:YAt w y x)(hb:Below B w w')(a:y<B):YAt w' y x:=(hb.block y a).trans h
theorem YAt.lt{w:World}{y:Nat}{x:Wt}(h:YAt w y x):y<w.heap.size:=(Array.getElem?_eq_some_iff.1 h).1
theorem YAt.cells{w:World}{y:Nat}{x:Wt}(h:YAt w y x):w.cell? ⟨y,0,none⟩=some (J I x.num)/\w.cell? ⟨y,1,none⟩=some (J I x.d)/\w.cell? ⟨y,2,none⟩=some (J I x.v)/\w.cell? ⟨y,3,none⟩=some (J I x.amt)/\w.cell? ⟨y,4,none⟩=some (J I x.hei)/\w.cell? ⟨y,5,none⟩=some (J I x.due)/\w.cell? ⟨y,6,none⟩=some (J I x.h0)/\w.cell? ⟨y,7,none⟩=some (J I x.h1):=by
 unfold YAt at h
 simp[World.cell?,h]
theorem SAt.j8j(w:World)(o p:Obj)(cs:Array Value):SAt (((w.alloc o).alloc p).alloc (J5 cs 43)) (w.heap.size+2) cs:=by
 have h:=SAt.new2 (w.alloc o) p cs
 rwa [show (w.alloc o).heap.size+1=w.heap.size+2 by simp]at h
theorem YAt.new(w:World)(o p:Obj)(x:Wt):YAt (((w.alloc o).alloc (J5 #[J I x.num,J I x.d,J I x.v,J I x.amt,J I x.hei,J I x.due,J I x.h0,J I x.h1] 63)).alloc p) (w.heap.size+1) x:=by
 have h:YAt ((w.alloc o).alloc (J5 #[J I x.num,J I x.d,J I x.v,J I x.amt,J I x.hei,J I x.due,J I x.h0,J I x.h1] 63)) (w.alloc o).heap.size x:=heap_alloc_new _ _;rw[show (w.alloc o).heap.size=w.heap.size+1 by simp]at h
 exact h.later (znw _ _) h.lt
theorem j1w(s:St)(ao:Option Addr)(sb so c:Nat)(d v n:Int)(y:Wt)(w:World)(hc:s.W.length<=c)(i:z2k w ao sb so s.W)(r:St×Int)(h0:z0T s d v≠0)(j:r=(s,z0T s d v)) :
  Calls prog 71 #[J4 (stC s (J1 ao s.W.length c)),J I d,J I v,J I n,J4 #[J I y.num,J I y.d,J I y.v,J I y.amt,J I y.hei,J I y.due,J I y.h0,J I y.h1]] w fun e w'=>z5y w.heap.size sb w r e w':=by
 have b:=((SAt.new w (stC s (J1 ao s.W.length c))).alloc (J5 #[J I y.num,J I y.d,J I y.v,J I y.amt,J I y.hei,J I y.due,J I y.h0,J I y.h1] 63)).alloc (J5 Z63 43);have RR:=SAt.j8j w (J5 (stC s (J1 ao s.W.length c)) 43) (J5 #[J I y.num,J I y.d,J I y.v,J I y.amt,J I y.hei,J I y.due,J I y.h0,J I y.h1] 63) Z63;have f:Hid (Bl w (((w.alloc (J5 (stC s (J1 ao s.W.length c)) 43)).alloc (J5 #[J I y.num,J I y.d,J I y.v,J I y.amt,J I y.hei,J I y.due,J I y.h0,J I y.h1] 63)).alloc (J5 Z63 43))):=((znw w _).alloc (by simp) _).alloc (by simp;omega) _
 have g:=J6 i;have l:=J6 j;have m:=J6 hc;clear i j hc
 go_enter func71,ntmps71
 go_upto_region 1 with fail
 change Code.wp prog _ _ _ (((w.alloc (J5 (stC s (J1 ao s.W.length c)) 43)).alloc (J5 #[J I y.num,J I y.d,J I y.v,J I y.amt,J I y.hei,J I y.due,J I y.h0,J I y.h1] 63)).alloc (J5 Z63 43));generalize ((w.alloc (J5 (stC s (J1 ao s.W.length c)) 43)).alloc (J5 #[J I y.num,J I y.d,J I y.v,J I y.amt,J I y.hei,J I y.due,J I y.h0,J I y.h1] 63)).alloc (J5 Z63 43)=w0 at *
 go_upto_region 2 with (go_at_call 98;refine (z2q s ao sb so c w.heap.size d v _ b (by exact g.out.over f.out)).mono ?_;rintro e w1⟨rfl,h1⟩)
 have a:=J6 (zbt f.out h1);have o:=b.later h1 b.lt;have k:=RR.later h1 RR.lt;clear b RR h1 f
 go_upto_region 3 with fail
 apply wp_region_lit;refine wpList_load_mid rfl 43 _ rfl _ 0 rfl _ _ o.range underlying43 rfl (by rw[z0x];rfl) ?_
 refine z1D rfl _ rfl ?_;refine wpList_store_mid rfl 43 _ _ rfl _ 0 (stC s (J1 ao s.W.length c)) rfl rfl (k.there 0 _ (by rw[z0q,z0f];omega)) (by rw[z0x];rfl) (z0y _ _ _ _) ?_
 go_wp2;exact z1z results71 k rfl a.out (by omega) s ao sb so c _ r l.out m.out (g.out.over a.out) (fun h=>by have:=g.out.lt h;omega) (fun _=>.inl rfl) _ rfl rfl rfl
theorem q6L(x:Vd)(n:Int):0<=woN x n/\woN x n<=1125899906842624:=by
 have:=z4f n x.tok x.sh;unfold woN
 split
 ·omega
 ·omega
theorem z0B{ops:Array Oper}{o:Oper}{a:Act}{w:World}{K:Act->World->Prop}{Q:Exit->Act->World->Prop}{E:Prop}(b:o.guard=none)(h:Oper.wp prog o a w K Q) :
  if Region.wanted o (yielded ops a.tmps)=true then Oper.wp prog o a w K Q else E:=by
 have c:Region.wanted o (yielded ops a.tmps)=true:=by simp[Region.wanted,b]
 rw[if_pos c];exact h
theorem q9M{ops:Array Oper}{o:Oper}{a:Act}{w:World}{K:Act->World->Prop}{Q:Exit->Act->World->Prop}{E:Prop}(f:o.guard=none)(b:o.type=41)(p q:Operand)
  (c:o.op=Op.call { callee:=Callee.builtin Builtin.append,args:=#[p,q],argTypes:=#[41,41] }) (ao:Option Addr) (sb so y:Nat) (W:List Wt) (x:Wt) (h:a.eval p=J1 ao W.length W.length) (i:a.eval q=J1 (some ⟨y,0,none⟩) 1 1)
  (k:z2k w ao sb so W) (d:W.length<=60) (l:∀ j v,(wtL x)[j]?=some v->w.cell? ⟨y,j,none⟩=some v)
  (m:∀ g C w',g=w.heap.size->W.length+1<=C->z2k w' (some ⟨g,0,none⟩) g 0 (W ++ [x])->Bl w w'->K (a.put o.dst (J1 (some ⟨g,0,none⟩) (W.length+1) C)) w') :
  if Region.wanted o (yielded ops a.tmps)=true then Oper.wp prog o a w K Q else E:=by
 have n:Region.wanted o (yielded ops a.tmps)=true:=by simp[Region.wanted,f]
 rw[if_pos n];unfold Oper.wp;obtain⟨C,w',r,s,e,t⟩:=ap1 w ao sb so y W x k d l
 simp[execOp,c,resolve,invoke,builtin,h,i,b,r,Result.andThen]
 exact m _ _ _ rfl s e t
theorem q7a(w:World)(x:Wt)(e:TypeId):∀ j v,(wtL x)[j]?=some v->(w.alloc (J5 #[J I x.num,J I x.d,J I x.v,J I x.amt,J I x.hei,J I x.due,J I x.h0,J I x.h1] e)).cell? ⟨w.heap.size,j,none⟩=some v:=by
 intro j v a;rw[World.cell?_alloc_at _ _ _ _ rfl]
 simpa [wtL] using a
theorem q4i{f:Func}{p q:Tmp}(b:f.results=#[.cell p 43,.tmp q]){B g sb:Nat}{w wq:World}{h:Array Value}(R:SAt wq g h)(i:h.size=63)(H:Below B w wq)(j:B<=g)(a:St)(A:Option Addr)(c ao C n:Nat)(d:Int)(r:St×Int)(k:r=(a,d))(l:a.W.length=n)(m:n<=C)(o:z2k wq A c ao a.W)(s:0<a.W.length->c≠g)(t:0<a.W.length->c=sb∨B<=c)(act:Act)
  (u:act.tmps.getD p undef=J2 (some ⟨g,0,none⟩)) (v:act.tmps.getD q undef=J I d) (hd:act.defers=[]) :
  bodyPost prog f (fun e w'=>z5y B sb w r e w') Exit.ret act (wq.setCells g 0 (stC a (J1 A n C)).toList):=by
 subst l;exact z1z b R i H j a A c ao C d r k m o s t act u v hd
theorem j4t(s:St)(d v:Nat)(a n:Int)(B:Bk)(x:Wt)(sl:Value):stC (j2q s d v a n B x) sl=stC { q3E { s with b:=B } d v (-a) (-n) with next:=s.next+1 } sl:=rfl
theorem q6I{s:St}(h:z0m s=true):1<=s.next/\s.next<=1125899906842624:=by
 unfold z0m at h;simp only[Bool.and_eq_true,decide_eq_true_eq]at h;exact⟨h.1.1.1.1.1.2,h.1.1.1.1.2⟩
theorem YAt.q9D{w:World}{b:Nat}{x:Wt}(h:YAt w b x)(a c e f:Int):YAt ((((w.setCell ⟨b,0,none⟩ (J I a)).setCell ⟨b,1,none⟩ (J I c)).setCell ⟨b,2,none⟩ (J I e)).setCell ⟨b,3,none⟩ (J I f)) b { x with num:=a,d:=c,v:=e,amt:=f }:=by
 unfold YAt at *
 simp[World.setCell,Array.getElem?_modify,h]
theorem YAt.free{w:World}{b:Nat}{x:Wt}(h:YAt w b x)(o:Nat):w.frozen? ⟨b,o,none⟩=false:=by
 unfold YAt at h
 simp[World.frozen?,h]
theorem q6w(s:St)(ao:Option Addr)(sb so c d v:Nat)(n:Int)(y:Wt)(w:World)(hc:s.W.length<=c)(hW:z2k w ao sb so s.W)(r:St×Int)(hg:z0m s=true)(hd:d<4)(hv:v<6)(B:Bk)(Y l G:Int)(hN:woN (s.V v) n=l)(hE:woE (s.V v) n=G)
  (a0:∀ w:World,Calls prog 104 #[J4 #[J I s.b.f0,J I s.b.f1,J I s.b.f2,J I s.b.f3,J I s.b.bo,J I s.b.wa,J I s.b.bu],J I l] w fun e w'=>e=.returned (.tuple #[J4 #[J I B.f0,J I B.f1,J I B.f2,J I B.f3,J I B.bo,J I B.wa,J I B.bu],J I Y])/\Bl w w')
  (h1:¬ ((decide (0<n) && inA n)=true/\0<=y.hei/\0<=y.due)->r=(s,2))
  (h2:(decide (0<n) && inA n)=true/\0<=y.hei/\0<=y.due->¬ n<=s.S d v->r=(s,7))
  (h3:(decide (0<n) && inA n)=true/\0<=y.hei/\0<=y.due->n<=s.S d v->¬ (s.W.length<60/\s.next<1125899906842624)->r=(s,6))
  (h4:(decide (0<n) && inA n)=true/\0<=y.hei/\0<=y.due->n<=s.S d v->(s.W.length<60/\s.next<1125899906842624)->G≠0->r=(s,G))
  (h5:(decide (0<n) && inA n)=true/\0<=y.hei/\0<=y.due->n<=s.S d v->(s.W.length<60/\s.next<1125899906842624)->G=0->Y≠0->r=(s,Y))
  (h6:(decide (0<n) && inA n)=true/\0<=y.hei/\0<=y.due->n<=s.S d v->(s.W.length<60/\s.next<1125899906842624)->G=0->Y=0->r=(j2q s d v l n B { y with num:=s.next,d:=d,v:=v,amt:=l },0)) :
  Calls prog 71 #[J4 (stC s (J1 ao s.W.length c)),J I (d:Int),J I (v:Int),J I n,J4 #[J I y.num,J I y.d,J I y.v,J I y.amt,J I y.hei,J I y.due,J I y.h0,J I y.h1]] w fun e w'=>z5y w.heap.size sb w r e w':=by
 have SS:=((SAt.new w (stC s (J1 ao s.W.length c))).alloc (J5 #[J I y.num,J I y.d,J I y.v,J I y.amt,J I y.hei,J I y.due,J I y.h0,J I y.h1] 63)).alloc (J5 Z63 43);have RR:=SAt.j8j w (J5 (stC s (J1 ao s.W.length c)) 43) (J5 #[J I y.num,J I y.d,J I y.v,J I y.amt,J I y.hei,J I y.due,J I y.h0,J I y.h1] 63) Z63;have YY:=YAt.new w (J5 (stC s (J1 ao s.W.length c)) 43) (J5 Z63 43) y;have HB:Hid (Bl w (((w.alloc (J5 (stC s (J1 ao s.W.length c)) 43)).alloc (J5 #[J I y.num,J I y.d,J I y.v,J I y.amt,J I y.hei,J I y.due,J I y.h0,J I y.h1] 63)).alloc (J5 Z63 43))):=((znw w _).alloc (by simp) _).alloc (by simp;omega) _
 have f:=J6 hW;have u:=J6 hc;have H1:=J6 h1;have H2:=J6 h2;have H3:=J6 h3;have H4:=J6 h4;have H5:=J6 h5;have H6:=J6 h6;obtain⟨M,a1⟩:=z4c hg v hv;have hS:=z8H n;have d6:=z4U hg hd hv;have d7:(d:Int)<4:=by omega
 have d8:(v:Int)<6:=by omega
 have hd0:(0:Int)<=(d:Int):=by omega
 have d9:(0:Int)<=(v:Int):=by omega
 have N:=fun w b o (hn:n<=1125899906842624)=>q2p b o (s.V v) n w hn M;rw[hN,hE]at N;have c6:=q6L (s.V v) n;rw[hN]at c6;clear hW h1 h2 h3 h4 h5 h6 hc hN hE
 go_enter func71,ntmps71
 go_upto_region 1 with fail
 change Code.wp prog _ _ _ (((w.alloc (J5 (stC s (J1 ao s.W.length c)) 43)).alloc (J5 #[J I y.num,J I y.d,J I y.v,J I y.amt,J I y.hei,J I y.due,J I y.h0,J I y.h1] 63)).alloc (J5 Z63 43));generalize ((w.alloc (J5 (stC s (J1 ao s.W.length c)) 43)).alloc (J5 #[J I y.num,J I y.d,J I y.v,J I y.amt,J I y.hei,J I y.due,J I y.h0,J I y.h1] 63)).alloc (J5 Z63 43)=w0 at *
 go_upto_region 2 with (go_at_call 98;refine (z2q s ao sb so c w.heap.size d v _ SS (by exact f.out.over HB.out)).mono ?_;rintro e w1⟨rfl,h1⟩)
 have a:=J6 (zbt HB.out h1);have z:=SS.later h1 SS.lt;have m:=RR.later h1 RR.lt;have Y1:=YY.later h1 YY.lt;obtain⟨x0,x1,x2,x3,x4,x5,x6,q,H⟩:=z0r z;obtain⟨c0,c1,_,_,_⟩:=z.val v hv;obtain⟨_,_,_,_,y4,y5,_,_⟩:=Y1.cells;have cs:=z.shr d v hd hv;have e0:w.heap.size+2<w1.heap.size:=m.lt;have HT:Hid ((decide (0<n) && inA n)=true->0<n/\n<=1125899906842624):=fun h=>by simp only[Bool.and_eq_true,decide_eq_true_eq,z0A]at h;omega
 generalize (decide (0<n) && inA n)=t at *;clear SS RR YY h1 HB
 go_upto_region 16 with (first
  | (go_at_call 99;refine (hS _).mono ?_;rintro e w2⟨rfl,rfl⟩)
  | (go_at_call 103;refine (N _ _ _ (by exact (HT.out ‹t=true›).2) c0 c1).mono ?_;rintro e w2⟨rfl,h2⟩;have A:=J6 (a.out.trans (h2.mono (by omega)));have S2:=z.later h2 z.lt;have Z:=m.later h2 m.lt;have Y2:=Y1.later h2 Y1.lt;clear x0 x1 x2 x3 x4 x5 x6 q H;obtain⟨x0,x1,x2,x3,x4,x5,x6,q,H⟩:=z0r S2;have e1:w.heap.size+2<w2.heap.size:=Z.lt;clear h2)
  | (go_at_call 104;refine (a0 _).mono ?_;rintro e K⟨rfl,h3⟩;have a2:=J6 (A.out.trans (h3.mono (by omega)));have S3:=S2.later h3 S2.lt;have R3:=Z.later h3 Z.lt;have Y3:=Y2.later h3 Y2.lt;have e2:w.heap.size+2<K.heap.size:=R3.lt;have p:=S3.alloc (J5 #[J I B.f0,J I B.f1,J I B.f2,J I B.f3,J I B.bo,J I B.wa,J I B.bu] 35);have R4:=R3.alloc (J5 #[J I B.f0,J I B.f1,J I B.f2,J I B.f3,J I B.bo,J I B.wa,J I B.bu] 35);have Y4:=Y3.later (znw _ (J5 #[J I B.f0,J I B.f1,J I B.f2,J I B.f3,J I B.bo,J I B.wa,J I B.bu] 35)) Y3.lt;have D:=J6 (a2.out.alloc (by omega) (J5 #[J I B.f0,J I B.f1,J I B.f2,J I B.f3,J I B.bo,J I B.wa,J I B.bu] 35));have B4:=BAt.new K B.f0 B.f1 B.f2 B.f3 B.bo B.wa B.bu;clear h3 x0 x1 x2 x3 x4 x5 x6 q H S3 R3 Y3)
  | ((fail_if_success (go_not_at_region 5));apply wp_region_lit;refine wpList_load_mid rfl 43 _ rfl _ 0 rfl _ _ z.range underlying43 rfl (by rw[z0x];rfl) ?_;refine wpList_store_mid rfl 43 _ _ rfl _ 0 (stC s (J1 ao s.W.length c)) rfl rfl (m.there 0 _ (by rw[z0q,z0f];omega)) (by rw[z0x];rfl) (z0y _ _ _ _) ?_)
  | ((fail_if_success (go_not_at_region 7));apply wp_region_lit;refine wpList_load_mid rfl 43 _ rfl _ 0 rfl _ _ z.range underlying43 rfl (by rw[z0x];rfl) ?_;refine wpList_store_mid rfl 43 _ _ rfl _ 0 (stC s (J1 ao s.W.length c)) rfl rfl (m.there 0 _ (by rw[z0q,z0f];omega)) (by rw[z0x];rfl) (z0y _ _ _ _) ?_)
  | ((fail_if_success (go_not_at_region 9));apply wp_region_lit;refine wpList_load_mid rfl 43 _ rfl _ 0 rfl _ _ z.range underlying43 rfl (by rw[z0x];rfl) ?_;refine wpList_store_mid rfl 43 _ _ rfl _ 0 (stC s (J1 ao s.W.length c)) rfl rfl (m.there 0 _ (by rw[z0q,z0f];omega)) (by rw[z0x];rfl) (z0y _ _ _ _) ?_)
  | ((fail_if_success (go_not_at_region 12));apply wp_region_lit;refine wpList_load_mid rfl 43 _ rfl _ 0 rfl _ _ S2.range underlying43 rfl (by rw[z0x];rfl) ?_;refine z1D rfl _ rfl ?_;refine wpList_store_mid rfl 43 _ _ rfl _ 0 (stC s (J1 ao s.W.length c)) rfl rfl (Z.there 0 _ (by rw[z0q,z0f];omega)) (by rw[z0x];rfl) (z0y _ _ _ _) ?_)
  | ((fail_if_success (go_not_at_region 15));apply wp_region_lit;refine wpList_load_mid rfl 43 _ rfl _ 0 rfl _ _ p.range underlying43 rfl (by rw[z0x];rfl) ?_;refine z1D rfl _ rfl ?_;refine wpList_store_mid rfl 43 _ _ rfl _ 0 (stC s (J1 ao s.W.length c)) rfl rfl (R4.there 0 _ (by rw[z0q,z0f];omega)) (by rw[z0x];rfl) (z0y _ _ _ _) ?_))
 ·exact z1z results71 m rfl a.out (by omega) s ao sb so c _ r (H1.out (fun h=>by have:=h.2;omega)) u.out (f.out.over a.out) (fun h=>by have:=f.out.lt h;omega) (fun _=>.inl rfl) _ rfl rfl rfl
 ·exact z1z results71 m rfl a.out (by omega) s ao sb so c _ r (H2.out ⟨‹t=true›,by omega,by omega⟩ (by omega)) u.out (f.out.over a.out) (fun h=>by have:=f.out.lt h;omega) (fun _=>.inl rfl) _ rfl rfl rfl
 ·exact z1z results71 m rfl a.out (by omega) s ao sb so c _ r (H3.out ⟨‹t=true›,by omega,by omega⟩ (by omega) (by omega)) u.out (f.out.over a.out) (fun h=>by have:=f.out.lt h;omega) (fun _=>.inl rfl) _ rfl rfl rfl
 ·exact z1z results71 Z rfl A.out (by omega) s ao sb so c _ r (H4.out ⟨‹t=true›,by omega,by omega⟩ (by omega) (by omega) (by simpa using ‹(G != 0)=true›)) u.out (f.out.over A.out) (fun h=>by have:=f.out.lt h;omega) (fun _=>.inl rfl) _ rfl rfl rfl
 ·exact z1z results71 R4 rfl D.out (by omega) s ao sb so c _ r (H5.out ⟨‹t=true›,by omega,by omega⟩ (by omega) (by omega) (by simpa using ‹(G != 0)=false›) (by simpa using ‹(Y != 0)=true›)) u.out (f.out.over D.out) (fun h=>by have:=f.out.lt h;omega) (fun _=>.inl rfl) _ rfl rfl rfl
 ·have HR:=J6 (H6.out ⟨‹t=true›,by omega,by omega⟩ (by omega) (by omega) (by simpa using ‹(G != 0)=false›) (by simpa using ‹(Y != 0)=false›))
  have hn:=HT.out ‹t=true›;have d0:s.W.length<60:=by omega
  have e3:s.next<1125899906842624:=by omega
  have d1:=q6I hg;obtain⟨k1,k2,k3⟩:=z2e M;have k4:=z6t a1 hd;rw[z0A]at k1 k2 k4;obtain⟨x0,x1,x2,x3,x4,x5,x6,q,H⟩:=z0r p;have f0:=p.free 0;have f1:=p.free 1;have f2:=p.free 2;have f3:=p.free 3;have f4:=p.free 4;have f5:=p.free 5;have f6:=p.free 6;have e4:w.heap.size≠K.heap.size:=by omega
  clear H1 H2 H3 H4 H5 H6 HT a0 N hS c0 c1 q H z S2 m Z Y1 Y2 a A M a1 k3 B4 cs y4 y5
  go_upto_region 17 with fail
  change Code.wp prog _ _ _ (z6h (K.alloc (J5 #[J I B.f0,J I B.f1,J I B.f2,J I B.f3,J I B.bo,J I B.wa,J I B.bu] 35)) w.heap.size B);have E:But w.heap.size (K.alloc (J5 #[J I B.f0,J I B.f1,J I B.f2,J I B.f3,J I B.bo,J I B.wa,J I B.bu] 35)) (z6h (K.alloc (J5 #[J I B.f0,J I B.f1,J I B.f2,J I B.f3,J I B.bo,J I B.wa,J I B.bu] 35)) w.heap.size B):=(((((((But.refl _ _).set 0 _).set 1 _).set 2 _).set 3 _).set 4 _).set 5 _).set 6 _;have S5:=z6O p B;have R5:=E.z1g (by omega) R4
  have Y5:YAt (z6h (K.alloc (J5 #[J I B.f0,J I B.f1,J I B.f2,J I B.f3,J I B.bo,J I B.wa,J I B.bu] 35)) w.heap.size B) (w.heap.size+1) y:=(E.block _ (by omega)).trans Y4
  have a3:=J6 (D.out.trans (E.below (Nat.le_refl _)));generalize z6h (K.alloc (J5 #[J I B.f0,J I B.f1,J I B.f2,J I B.f3,J I B.bo,J I B.wa,J I B.bu] 35)) w.heap.size B=w5 at *;have hA:=q3m { s with b:=B } (J1 ao s.W.length c) w.heap.size d v (-l) (-n) w5 S5 hd hv (by simp only;omega) (by simp only;omega) (by simp only;omega)
  clear x0 x1 x2 x3 x4 x5 x6 f0 f1 f2 f3 f4 f5 f6 p R4 Y4 a2 D S5 E
  go_upto_region 18 with (go_at_call 102;refine hA.mono ?_;rintro e w6⟨rfl,S6,k⟩)
  have R6:=k.z1g (by omega) R5
  have P:YAt w6 (w.heap.size+1) y:=(k.block _ (by omega)).trans Y5
  have a4:=J6 (a3.out.trans (k.below (Nat.le_refl _)));have e5:w.heap.size+2<w6.heap.size:=R6.lt;clear R5 Y5 a3 k hA;obtain⟨_,_,_,_,_,_,_,q,H⟩:=z0r S6;obtain⟨y0,y1,y2,y3,_,_,_,_⟩:=P.cells;have g0:=P.free 0;have g1:=P.free 1;have g2:=P.free 2;have g3:=P.free 3;have f2:=S6.free 62;have d2:w.heap.size≠w.heap.size+1:=by omega
  simp only[q3E]at q H
  go_upto_region 20 with fail
  have Y7:=P.q9D s.next d v l
  have F:=((((But.refl (w.heap.size+1) w6).set 0 (J I s.next)).set 1 (J I (d:Int))).set 2 (J I (v:Int))).set 3 (J I l)
  have S7:=F.z1g (c:=w.heap.size) (by omega) S6
  have R7:=F.z1g (c:=w.heap.size+2) (by omega) R6
  have a5:=J6 (a4.out.trans (F.below (B:=w.heap.size) (by omega)))
  generalize (((w6.setCell ⟨w.heap.size+1,0,none⟩ (J I s.next)).setCell ⟨w.heap.size+1,1,none⟩ (J I (d:Int))).setCell ⟨w.heap.size+1,2,none⟩ (J I (v:Int))).setCell ⟨w.heap.size+1,3,none⟩ (J I l)=w7 at *
  have S8:=S7.set 62 (J I (s.next+1))
  rw[j0D]at S8;have i:=(But.refl w.heap.size w7).set 62 (J I (s.next+1))
  have R8:=i.z1g (c:=w.heap.size+2) (by omega) R7
  have Y8:=(i.block (w.heap.size+1) (by omega)).trans Y7
  have Q:=J6 (a5.out.trans (i.below (B:=w.heap.size) (by omega)))
  generalize w7.setCell ⟨w.heap.size,62,none⟩ (J I (s.next+1))=w8 at *
  clear S6 R6 P a4 y0 y1 y2 y3 g0 g1 g2 g3 f2 q H F S7 R7 Y7 a5 i;have Y9:YAt w8 (w.heap.size+1) { y with num:=s.next,d:=d,v:=v,amt:=l }:=Y8
  generalize hx:({ y with num:=s.next,d:=d,v:=v,amt:=l }:Wt)=x at *
  clear hx Y8;have R:=J6 S8;obtain⟨_,_,_,_,_,_,_,q,_⟩:=z0r S8;obtain⟨y0,y1,y2,y3,y4,y5,y6,y7⟩:=Y9.cells;have e6:w.heap.size+2<w8.heap.size:=R8.lt;have d3:w.heap.size<w8.heap.size:=by omega
  have d4:w.heap.size+1<w8.heap.size:=by omega
  have a6:(s.W.length:Int)<4611686018427387904:=by omega
  have a7:ao=none->s.W.length=0:=fun h=>by
   rcases Nat.eq_zero_or_pos s.W.length with h0 | h0
   ·exact h0
   ·have:=f.out.adr h0;rw[h]at this;cases this
  clear S8
  go_region_law (first
   | (refine z0B rfl ?_;go_simp;go_at_call 105;refine (j0B ao s.W.length c u.out a7 a6 _).mono ?_;rintro e we⟨rfl,rfl⟩)
   | (refine q9M rfl rfl _ _ rfl ao sb so _ s.W x rfl rfl (f.out.over (Q.out.alloc (by omega) _).drew) (by omega) (fun j v hj=>q7a w8 x _ j v hj) ?_;intro g C w9 a8 c7 a9 T;have S9:=(R.out.later (znw w8 _).drew R.out.lt).later T (by simp;omega);obtain⟨_,_,_,_,_,_,_,z7,_⟩:=z0r S9;have fz:=S9.free 61;have c8:=S9.lt;have b4:=J6 S9;have U:=J6 T;have b5:=J6 a9;have b6:=J6 a8;clear S9 T a9 a8))
  all_goals
   have b7:g=w8.heap.size+1:=by rw[b6.out];show (w8.alloc _).heap.size=_;simp
   have L:=(Q.out.alloc (by omega) _).drew.trans (U.out.mono (by show _<=(w8.alloc _).heap.size;simp;omega))
   have R9:=(R8.later (znw w8 _).drew R8.lt).later U.out (by show _<(w8.alloc _).heap.size;simp;omega)
   have i:=(But.refl w.heap.size w9).set 61 (J1 (some ⟨g,0,none⟩) (s.W.length+1) C);have X:=b4.out.set 61 (J1 (some ⟨g,0,none⟩) (s.W.length+1) C);rw[q0u]at X;have b8:SAt (w9.setCell ⟨w.heap.size,61,none⟩ (J1 (some ⟨g,0,none⟩) (s.W.length+1) C)) w.heap.size (stC (j2q s d v l n B x) (J1 (some ⟨g,0,none⟩) (s.W.length+1) C)):=by rw[j4t];exact X
   have b9:=i.z1g (c:=w.heap.size+2) (by omega) R9
   have c9:=b5.out.but i (fun _=>by omega)
   have c4:=J6 b7;clear b7;have c5:=J6 (L.trans (i.below (Nat.le_refl _)));generalize w9.setCell ⟨w.heap.size,61,none⟩ (J1 (some ⟨g,0,none⟩) (s.W.length+1) C)=w10 at *;have d5:w.heap.size<w10.heap.size:=b8.lt;clear b4 U b6 b5 R R8 R9 Q i X L y0 y1 y2 y3 y4 y5 y6 y7 q z7 fz Y9 c8
   go_upto_region 21 with fail
   apply wp_region_lit;refine wpList_load_mid rfl 43 _ rfl _ 0 rfl _ _ b8.range underlying43 rfl (by rw[z0x];rfl) ?_
   refine wpList_store_mid rfl 43 _ _ rfl _ 0 (stC (j2q s d v l n B x) (J1 (some ⟨g,0,none⟩) (s.W.length+1) C)) rfl rfl (b9.there 0 _ (by rw[z0q,z0f];omega)) (by rw[z0x];rfl) (z0y _ _ _ _) ?_
   go_wp2;exact q4i results71 b9 rfl c5.out (by omega) (j2q s d v l n B x) (some ⟨g,0,none⟩) g 0 C (s.W.length+1) 0 r HR.out (by simp[j2q]) c7 c9 (fun _=>by have:=c4.out;omega) (fun _=>.inr (by have:=c4.out;omega)) _ rfl rfl rfl
 ·exact z1z results71 m rfl a.out (by omega) s ao sb so c _ r (H3.out ⟨‹t=true›,by omega,by omega⟩ (by omega) (by omega)) u.out (f.out.over a.out) (fun h=>by have:=f.out.lt h;omega) (fun _=>.inl rfl) _ rfl rfl rfl
 ·exact z1z results71 m rfl a.out (by omega) s ao sb so c _ r (H1.out (fun h=>by have:=h.2;omega)) u.out (f.out.over a.out) (fun h=>by have:=f.out.lt h;omega) (fun _=>.inl rfl) _ rfl rfl rfl
 ·exact z1z results71 m rfl a.out (by omega) s ao sb so c _ r (H1.out (fun h=>absurd h.1 ‹¬ t=true›)) u.out (f.out.over a.out) (fun h=>by have:=f.out.lt h;omega) (fun _=>.inl rfl) _ rfl rfl rfl
end
end Go.Proofs.YtddlhnoedldidaaGreat
