/- Parts of the proof. -/
import Derived.Test.YtmopekkhmhhcaaaGreatEL
import Derived.Test.YtmopekkhmhhcaaaGreatEK31
set_option maxRecDepth 100000
set_option maxHeartbeats 16000000
namespace Go.Proofs.YtmopekkhmhhcaaaGreat
open Go.Proofs.Tryz
namespace Pv
open Go.RowKit
theorem z3o{w:World}{b:Nat}{p:Pr}{v:PrV}(h:CAt 57 w b (prC p v)):(w.cell? ⟨b,0,none⟩=some (.int .i64 p.h)/\w.cell? ⟨b,1,none⟩=some (.int .i64 p.t)/\w.cell? ⟨b,65,none⟩=some v.set/\w.cell? ⟨b,94,none⟩=some (.int .i64 p.ml)/\w.cell? ⟨b,95,none⟩=some (.int .i64 p.mn)/\w.cell? ⟨b,96,none⟩=some v.q)/\(z7O (.pointer (some ⟨b,2,none⟩))).run prog w=.ok (.agg (stC p.s v.ws)) w:=
 ⟨⟨h.cell 0,h.cell 1,h.cell 65,h.cell 94,h.cell 95,h.cell 96⟩,z2d h⟩
attribute [local go_sem ↓] z1C
end Pv
namespace Pv
open Go.RowKit
def z2l(h:Int)(x:Lk):Bool:=z2m (-1) x.done && (!(x.on && x.gone) && decide (0<=x.base) && decide (x.base<=h) && z3k (-1) x.told && Ln.z0W x.out)
def z5z(L:Nat->Lk)(a:Int×Pkt):Bool:=decide (0<=a.1) && decide (a.1<=1) && (L a.1.toNat).on && decide (a.2.k≠1) && decide (Cd.z0q a.2.k a.2.i a.2.v a.2.n a.2.S a.2.D=0)
def z0B(p:Pr):Bool:=(z0h p.s && decide (0<=p.h) && decide (p.h<=1099511627775) && decide (0<=p.t) && decide (p.t<=1099511627776) && z3k (-1) p.set) && (z2l p.h (p.L 0) && z2l p.h (p.L 1)) && p.q.all (z5z p.L)
structure GG(p:Pr)(G:Bool):Prop where
 one:(z0h p.s && decide (0<=p.h) && decide (p.h<=1099511627775) && decide (0<=p.t) && decide (p.t<=1099511627776) && z3k (-1) p.set)=false->G=false
 lks:∀ k,k<2->z2l p.h (p.L k)=false->G=false
 qus:∀ (i:Nat) (x:Int×Pkt),p.q[i]?=some x->z5z p.L x=false->G=false
 all:(z0h p.s && decide (0<=p.h) && decide (p.h<=1099511627775) && decide (0<=p.t) && decide (p.t<=1099511627776) && z3k (-1) p.set)=true->(∀ k,k<2->z2l p.h (p.L k)=true)->(∀ (i:Nat) (x:Int×Pkt),p.q[i]?=some x->z5z p.L x=true)->G=true
theorem j0Z(p:Pr):GG p (z0B p):=by
 refine ⟨fun h=>by simp only[z0B,h,Bool.false_and],fun k hk h=>?_,fun i x hx h=>?_,fun h1 h2 h3=>?_⟩
 ·have e:(z2l p.h (p.L 0) && z2l p.h (p.L 1))=false:=by
   match k,hk with
   | 0,_=>rw[h,Bool.false_and]
   | 1,_=>rw[h,Bool.and_false]
  simp only[z0B,e,Bool.and_false,Bool.false_and]
 ·have e:p.q.all (z5z p.L)=false:=by
   rw[List.all_eq_false];exact ⟨x,List.mem_of_getElem? hx,by rw[h];simp⟩
  simp only[z0B,e,Bool.and_false]
 ·have e:p.q.all (z5z p.L)=true:=by
   rw[List.all_eq_true];intro x hx;obtain ⟨i,hi⟩:=List.getElem?_of_mem hx;exact h3 i x hi
  simp only[z0B,h1,h2 0 (by omega),h2 1 (by omega),e,Bool.and_self]
end Pv
section
open Go.RowKit
theorem q3r(n f:Int)(w:World):Calls prog 154 #[.int .i64 n,.int .i64 f] w fun e w'=>e=.returned (.tuple #[.int .i64 (ptN n f),.int .i64 (ptE n f)])/\Below w.heap.size w w':=Ra.j6s n f w
theorem q6y:∀ (W:List Wt) (k:Nat) (x:Wt) (y:Int),W[k]?=some x->wsL (W.set k { x with amt:=y })=(wsL W).set (k * 8+3) (.int .i64 y)
 | [],k,x,y,h=>by simp at h
 | z :: W,0,x,y,h=>by
  simp at h
  subst h;rfl
 | z :: W,k+1,x,y,h=>by
  have ih:=q6y W k x y (by simpa using h)
  show wtL z ++ wsL (W.set k _)=(wtL z ++ wsL W).set _ _
  rw[List.set_append_right _ _ (by rw[z1S];omega),z1S,ih]
  congr 2
  omega
theorem z2f.amt{B:Nat}{w:World}{g C:Nat}{W:List Wt}(h:z2f B w (some ⟨g,0,none⟩) C W){k:Nat}{x:Wt}(hx:W[k]?=some x)(y:Int):z2f B (w.setCell ⟨g,k * 8+3,none⟩ (.int .i64 y)) (some ⟨g,0,none⟩) C (W.set k { x with amt:=y }):=by
 have h1:=(World.ownsRow.stored h (k * 8+3) (.int .i64 y)).1;unfold z2f;rw[q6y W k x y hx,List.length_set];exact h1
theorem z2f.at0{B:Nat}{w:World}{A:Option Addr}{C:Nat}{W:List Wt}(h:z2f B w A C W)(h0:0<W.length):∃ g,A=some ⟨g,0,none⟩/\B<=g/\g<w.heap.size/\∀ k x,W[k]?=some x->(w.cell? ⟨g,k * 8+2,none⟩=some (.int .i64 x.v)/\w.cell? ⟨g,k * 8+3,none⟩=some (.int .i64 x.amt)/\w.cell? ⟨g,k * 8+4,none⟩=some (.int .i64 x.hei)/\w.frozen? ⟨g,k * 8+3,none⟩=false):=by
 have h':=h
 rcases h.2 with ⟨hv,hn⟩ | ⟨g,cap,cur,hv,hb,hg,hrest⟩
 ·omega
 ·cases hv;refine ⟨g,rfl,hb,(Array.getElem?_eq_some_iff.1 hg).1,fun k x hx=>?_⟩
  have c:∀ j v,(wtL x)[j]?=some v->j<8->w.cell? ⟨g,k * 8+j,none⟩=some v:=fun j v hj hl=>by
   have:=World.ownsRow.cells h' (g:=g) rfl (k * 8+j) v ((z4p W k x j hx hl).trans hj)
   rwa [Addr.add_lit,Nat.zero_add]at this
  exact ⟨c 2 _ rfl (by omega),c 3 _ rfl (by omega),c 4 _ rfl (by omega),World.ownsRow.frozenAt h' _⟩
theorem z7V(ao:Option Addr)(W:List Wt)(c sb so:Nat)(v h f:Int)(w:World)(hW:z2n w ao sb so W)(hf:0<=f/\f<=1000)(hA:∀ x∈W,0<=x.amt/\x.amt<=1125899906842624)(hs:z2u W<=400000)(h60:W.length<=60) :
  Calls prog 155 #[.slice ao W.length c,.int .i64 v,.int .i64 h,.int .i64 f] w fun e w'=>∃ A C,e=.returned (.tuple #[.slice A (slW v h f W).length C,.int .i64 (slN v h f W),.int .i64 0])/\z2f w.heap.size w' A C (slW v h f W)/\Below w.heap.size w w':=by
 have hC:=z3B ao W c sb so w hW;have HL:Hid ((slW v h f W).length=W.length):=by show (slW v h f W).length=W.length;unfold slW;rw[List.length_map]
 have HN:Hid (∀ k,0<=slN v h f (W.take k)/\slN v h f (W.take k)<=400000):=fun k=>by
  have h1:=q2I (v:=v) (h:=h) hf (W:=W.take k) fun x hx=>hA x (List.mem_of_mem_take hx);have e1:z2u W=z2u (W.take k)+z2u (W.drop k):=by rw[← z3d,List.take_append_drop]
  have n2:=z3S (W:=W.drop k) fun y hy=>(hA y (List.mem_of_mem_drop hy)).1;omega
 clear hW hs
 go_enter func155,ntmps155
 go_upto_region 3 with (go_at_call 40;refine hC.mono ?_;rintro e w1 ⟨A,C,rfl,hO,h1⟩;have HO:=hide hO;have HB:=hide h1;clear hO h1)
 go_loopw [12,21] (fun al i wl=>∃ (k:Nat),k<=W.length/\i=.int .i64 (k:Int)/\al=.int .i64 (slN v h f (W.take k))/\Hid (z2f w.heap.size wl A C (slW v h f (W.take k) ++ W.drop k)/\Below w.heap.size w wl)) (fun _ i _=>W.length - (intOf i).toNat)
 case atStart=>exact ⟨0,Nat.zero_le _,rfl,rfl,HO.out,HB.out⟩
 case round =>
  obtain ⟨k,hk,rfl,rfl,HR⟩:=hrel;clear HO HB;obtain ⟨n0,n1⟩:=HN.out k
  by_cases hlt:k<W.length
  ·obtain ⟨x,hx,_⟩:=drop_at hlt;obtain ⟨e1,e2,e3⟩:=j4t v h f hx;obtain ⟨n2,n3⟩:=HN.out (k+1);have hxa:=hA x (by obtain ⟨h1,h2⟩:=List.getElem?_eq_some_iff.1 hx;exact h2 ▸ List.getElem_mem h1)
   obtain ⟨g,rfl,hgB,hgs,hcl⟩:=HR.out.1.at0 (by rw[List.length_append,List.length_drop];omega)
   obtain ⟨c2,c3,c4,c5⟩:=hcl k x e2;have hlen:(slW v h f (W.take k) ++ W.drop k).length=W.length:=by unfold slW;rw[List.length_append,List.length_map,← List.length_append,List.take_append_drop]
   have HE2:=hide e2;have HE1:=hide e1;have hcap:=HR.out.1.cap;rw[hlen]at hcap;clear hcl hC e1 e2 hx hlen;generalize slW v h f (W.take k) ++ W.drop k=Wk at *;generalize hW1:slW v h f (W.take (k+1)) ++ W.drop (k+1)=Wk1 at *;have HW1:=hide hW1;clear hW1
   by_cases hh:x.v=v/\h<=x.hei
   ·have hhit:j2U v h x=true:=by simp[j2U,hh.1,hh.2]
    obtain ⟨s1,s2⟩:=j6l (f:=f) hhit;obtain ⟨p0,p1,p2⟩:=j1D hxa hf;rw[s1]at HE1;rw[s2]at e3;have hP:=q3r x.amt f;rw[p0]at hP;obtain ⟨hh1,hh2⟩:=hh;rw[hh1]at c2;generalize ptN x.amt f=pn at *;have hw1:wrap64 (x.amt - pn)=x.amt - pn:=z0g (by omega) (by omega)
    rw[e3]at n2 n3;have HE3:=hide e3;generalize slN v h f (W.take k)=sk at *;have hw2:wrap64 (sk+pn)=sk+pn:=z0g (by omega) (by omega)
    clear hhit s1 s2 p0 e3 HN
    go_upto_region 10 with (go_at_call 154;refine (hP _).mono ?_;rintro e w2 ⟨rfl,h2⟩)
    have HR2:Hid (z2f w.heap.size w2 (some ⟨g,0,none⟩) C Wk/\Below w.heap.size w w2):=⟨HR.out.1.over h2,zbt HR.out.2 h2⟩;obtain ⟨g',hg',_,hgs2,hcl2⟩:=HR2.out.1.at0 (by have:=(List.getElem?_eq_some_iff.1 HE2.out).1;omega)
    cases hg';obtain ⟨c2',c3',c4',c5'⟩:=hcl2 k x HE2.out;clear hcl2 h2 c2 c3 c4 c5 HR;go_wp2;refine ⟨⟨k+1,by omega,by go_num,?_,?_⟩,by simp[intOf];omega⟩
    ·first | rw[HE3.out] | (rw[HE3.out];exact congrArg _ hw2)
    ·rw[HW1.out,HE1.out];exact ⟨HR2.out.1.amt HE2.out _,HR2.out.2.setCell hgB _⟩
   ·have hhit:j2U v h x=false:=by
     simp only[j2U,Bool.and_eq_false_iff,decide_eq_false_iff_not]
     by_cases h1:x.v=v
     ·exact .inr (fun h2=>hh ⟨h1,h2⟩)
     ·exact .inl h1
    obtain ⟨s1,s2⟩:=j5x (f:=f) hhit;rw[s1]at HE1;rw[s2]at e3;have HE3:=hide e3;have hEq:Hid (Wk1=Wk):=by show Wk1=Wk;rw[HE1.out];exact z5f HE2.out
    clear hhit s1 s2 e3 HN HE1;go_wp2
    all_goals first
     | (exact ⟨⟨k+1,by omega,by go_num,by rw[HE3.out,Int.add_zero],by rw[HW1.out,hEq.out];exact HR.out⟩,by simp[intOf];omega⟩)
     | (exfalso;exact hh ⟨by first | assumption | omega,by omega⟩)
  ·obtain rfl:k=W.length:=by omega
   rw[List.take_length,List.drop_length,List.append_nil]at HR;rw[List.take_length];clear hC HN;go_wp2;refine bodyPost_ret (v:=.tuple #[.slice A W.length C,.int .i64 (slN v h f W),.int .i64 0]) (by simp[results,results155]) rfl ⟨A,C,by rw[HL.out],HR.out.1,HR.out.2⟩
theorem q4o(s:St)(ao:Option Addr)(sb so c v:Nat)(h f:Int)(w:World)(hW:z2n w ao sb so s.W)(hg:z0h s=true)(hv:v<6)(hf:0<=f/\f<=1000) :
  Calls prog 112 #[.agg (stC s (.slice ao s.W.length c)),.int .i64 (v:Int),.int .i64 h,.int .i64 f] w fun e w'=>∃ A C,e=.returned (.tuple #[.agg (stC (z1G s v h f) (.slice A (z1G s v h f).W.length C)),.int .i64 (ptN (s.V v).tok f+slN v h f s.W),.int .i64 0])/\z2f w.heap.size w' A C (z1G s v h f).W/\Below w.heap.size w w':=by
 have SS:=(SAt.new w (stC s (.slice ao s.W.length c))).alloc (.cells Z63 43);have RR:=SAt.new2 w (.cells (stC s (.slice ao s.W.length c)) 43) Z63;have HB:Hid (Below w.heap.size w ((w.alloc (.cells (stC s (.slice ao s.W.length c)) 43)).alloc (.cells Z63 43))):=(znw w _).alloc (by simp) _
 have HW:=hide hW;have hRf:=z3y hg hv;have hv':(v:Int)<6:=by omega
 have hv0:(0:Int)<=(v:Int):=by omega
 obtain ⟨n1,n2,n3,n4,n5,n6,n7,n8,n9,n10,n11⟩:=z4w hg hv h hf;obtain ⟨b0,-⟩:=z5T hg hv h hf;have hP:=q3r (s.V v).tok f;have hSl:=fun w hw=>z7V ao s.W c sb so v h f w hw hf n10 n9 n11;have hBu:=fun w=>q9V s.b (ptN (s.V v).tok f) (slN v h f s.W) w;rw[b0]at hBu;rw[n1]at hP;have eS:z1G s v h f={ s with b:=(z2C s.b (ptN (s.V v).tok f) (slN v h f s.W)).1,V:=z1E s.V v (z6l (s.V v) (ptN (s.V v).tok f) (slN v h f s.W)),W:=slW v h f s.W }:=rfl
 generalize (z2C s.b (ptN (s.V v).tok f) (slN v h f s.W)).1=B at *;have hWs:(z1G s v h f).W=slW v h f s.W:=rfl;generalize z1G s v h f=r at *;generalize ptN (s.V v).tok f=pb at *;generalize slN v h f s.W=pw at *;rw[hWs];generalize slW v h f s.W=Ws at *;obtain ⟨n20,n21⟩:=n2;obtain ⟨n30,n31⟩:=n3;obtain ⟨n50,n51⟩:=n5;have hw0:wrap64 (pb+pw)=pb+pw:=z0g (by omega) (by omega)
 have HES:=hide eS;clear hW hf hg n1 n9 n10 n11 b0 eS hWs
 go_enter func112,ntmps112
 go_upto_region 1 with fail
 change Code.wp prog _ _ _ ((w.alloc (.cells (stC s (.slice ao s.W.length c)) 43)).alloc (.cells Z63 43));generalize (w.alloc (.cells (stC s (.slice ao s.W.length c)) 43)).alloc (.cells Z63 43)=w0 at *
 go_upto_region 2 with (go_at_call 79;refine (z1F s ao sb so c w.heap.size v _ SS (by exact HW.out.over HB.out)).mono ?_;rintro e w1 ⟨rfl,h1⟩)
 have HB1:=hide (zbt HB.out h1);have S1:=SS.later h1 SS.lt;have R1:=RR.later h1 RR.lt;clear SS RR h1 HB;have c0:=(S1.val v hv).1;have x7:=(z0p S1).2.2.2.2.2.2.2.1;have hz1:w.heap.size+1<w1.heap.size:=R1.lt;have hz1a:w.heap.size<w1.heap.size:=by omega
 go_upto_region 14 with (first
  | (go_at_call 154;refine (hP _).mono ?_;rintro e w2 ⟨rfl,h2⟩;have HB2:=hide (HB1.out.trans (h2.mono (by omega)));have S2:=S1.later h2 S1.lt;have R2:=R1.later h2 R1.lt;have hz2:=R2.lt;clear x7;have x7:=(z0p S2).2.2.2.2.2.2.2.1;have hz2a:=S2.lt;clear h2)
  | (go_at_call 155;refine (hSl _ (by exact HW.out.over HB2.out)).mono ?_;rintro e w3 ⟨A,C,rfl,hO3,h3⟩;have HB3:=hide (HB2.out.trans (h3.mono (by omega)));have S3:=S2.later h3 S2.lt;have R3:=R2.later h3 R2.lt;have HO3:=hide hO3;have hz3:=R3.lt;have hz3a:=S3.lt;obtain ⟨x0,x1,x2,x3,x4,x5,x6,_,_⟩:=z0p S3;clear h3 hO3)
  | (go_at_call 156;refine (hBu _).mono ?_;rintro e w4 ⟨rfl,h4⟩;have HB4:=hide (HB3.out.trans (h4.mono (by omega)));have S4:=S3.later h4 S3.lt;have R4:=R3.later h4 R3.lt;have HO4:=hide (HO3.out.over h4);have hz4:=R4.lt;clear h4 x0 x1 x2 x3 x4 x5 x6))
 have B5:BAt (w4.alloc (.cells #[.int .i64 B.f0,.int .i64 B.f1,.int .i64 B.f2,.int .i64 B.f3,.int .i64 B.bo,.int .i64 B.wa,.int .i64 B.bu] 35)) w4.heap.size B.f0 B.f1 B.f2 B.f3 B.bo B.wa B.bu:=heap_alloc_new _ _;have S5:=S4.alloc (.cells #[.int .i64 B.f0,.int .i64 B.f1,.int .i64 B.f2,.int .i64 B.f3,.int .i64 B.bo,.int .i64 B.wa,.int .i64 B.bu] 35);have R5:=R4.alloc (.cells #[.int .i64 B.f0,.int .i64 B.f1,.int .i64 B.f2,.int .i64 B.f3,.int .i64 B.bo,.int .i64 B.wa,.int .i64 B.bu] 35);have HB5:=hide (HB4.out.alloc (by omega) (.cells #[.int .i64 B.f0,.int .i64 B.f1,.int .i64 B.f2,.int .i64 B.f3,.int .i64 B.bo,.int .i64 B.wa,.int .i64 B.bu] 35))
 have HO5:=hide (HO4.out.over (znw w4 (.cells #[.int .i64 B.f0,.int .i64 B.f1,.int .i64 B.f2,.int .i64 B.f3,.int .i64 B.bo,.int .i64 B.wa,.int .i64 B.bu] 35)));generalize w4.alloc (.cells #[.int .i64 B.f0,.int .i64 B.f1,.int .i64 B.f2,.int .i64 B.f3,.int .i64 B.bo,.int .i64 B.wa,.int .i64 B.bu] 35)=w5 at *;clear S1 R1 HB1 S2 R2 HB2 S3 R3 HB3 S4 R4 HB4 HO3 HO4 hP hSl hBu;have hz5:w4.heap.size<w5.heap.size:=B5.lt;have hz5a:w.heap.size<w5.heap.size:=by omega
 have c0:=(S5.val v hv).1;have c2:=(S5.val v hv).2.2.1;have f0:=S5.free (7+v * 5)
 go_upto_region 16 with fail
 have S6:=S5.set (7+v * 5) (.int .i64 ((s.V v).tok - pb));rw[q8g _ _ v hv]at S6;have HBt:=hide ((But.refl w.heap.size w5).set (7+v * 5) (.int .i64 ((s.V v).tok - pb)));generalize w5.setCell ⟨w.heap.size,7+v * 5,none⟩ (.int .i64 ((s.V v).tok - pb))=w6 at *;clear c0 c2 f0;have c2:=(S6.val v hv).2.2.1;simp only[z5Z]at c2;have f0:=S6.free (7+v * 5+2);have hz6a:w.heap.size<w6.heap.size:=S6.lt
 go_upto_region 17 with fail
 have S7:=S6.set (7+v * 5+2) (.int .i64 ((s.V v).lost+(pb+pw)));rw[q9U _ _ v hv]at S7;have HBt2:=hide (HBt.out.set (7+v * 5+2) (.int .i64 ((s.V v).lost+(pb+pw))));generalize w6.setCell ⟨w.heap.size,7+v * 5+2,none⟩ (.int .i64 ((s.V v).lost+(pb+pw)))=w7 at *;have hz7a:w.heap.size<w7.heap.size:=S7.lt;have B7:BAt w7 w4.heap.size B.f0 B.f1 B.f2 B.f3 B.bo B.wa B.bu:=(HBt2.out.block _ (by omega)).trans B5
 have hz7b:=B7.lt;obtain ⟨x0,x1,x2,x3,x4,x5,x6,x7,_⟩:=z0p S7;obtain ⟨y0,y1,y2,y3,y4,y5,y6⟩:=B7.cells;have g0:=S7.free 0;have g1:=S7.free 1;have g2:=S7.free 2;have g3:=S7.free 3;have g4:=S7.free 4;have g5:=S7.free 5;have g6:=S7.free 6;have g61:=S7.free 61;have hne:w4.heap.size≠w.heap.size:=by omega
 clear c2 f0 S6 HBt
 go_upto_region 18 with fail
 change Code.wp prog _ _ _ ((z5Q w7 w.heap.size B).setCell ⟨w.heap.size,61,none⟩ (.slice A Ws.length C));have HBt3:Hid (But w.heap.size w5 ((z5Q w7 w.heap.size B).setCell ⟨w.heap.size,61,none⟩ (.slice A Ws.length C))):=(((((((HBt2.out.set 0 _).set 1 _).set 2 _).set 3 _).set 4 _).set 5 _).set 6 _).set 61 _;have S8:=(z6D S7 B).set 61 (.slice A Ws.length C);rw[z9V]at S8;have R8:=HBt3.out.z1d (by omega) R5
 have HO8:Hid (z2f w2.heap.size ((z5Q w7 w.heap.size B).setCell ⟨w.heap.size,61,none⟩ (.slice A Ws.length C)) A C Ws):=z1h HO5.out fun k' hk=>HBt3.out.block _ (by have:=(World.ownsRow.lt HO5.out k' hk).1;omega)
 have HB8:=hide (HB5.out.trans (HBt3.out.below (Nat.le_refl _)));generalize (z5Q w7 w.heap.size B).setCell ⟨w.heap.size,61,none⟩ (.slice A Ws.length C)=w8 at *;clear x0 x1 x2 x3 x4 x5 x6 x7 y0 y1 y2 y3 y4 y5 y6 g0 g1 g2 g3 g4 g5 g6 g61 S7 B7 B5 HBt2 HBt3 R5 HB5 HO5 S5
 have S9:SAt w8 w.heap.size (stC r (.slice A Ws.length C)):=by
  have e:stC r (.slice A Ws.length C)=stC { ({ s with V:=z1E (z1E s.V v { s.V v with tok:=(s.V v).tok - pb }) v { z1E s.V v { s.V v with tok:=(s.V v).tok - pb } v with lost:=(s.V v).lost+(pb+pw) } }:St) with b:=B } (.slice A Ws.length C):=by
   rw[HES.out,z5Z]
   have hV:z1E (z1E s.V v { s.V v with tok:=(s.V v).tok - pb }) v { s.V v with tok:=(s.V v).tok - pb,lost:=(s.V v).lost+(pb+pw) }=z1E s.V v (z6l (s.V v) pb pw):=by
    funext i
    unfold z1E z6l
    split <;> rfl
   rw[hV];rfl
  rw[e];exact S8
 clear S8;apply wp_region_lit;refine wpList_load_mid rfl 43 _ rfl _ 0 rfl _ _ S9.range underlying43 rfl (by rw[z0t];rfl) ?_
 refine z1K rfl _ rfl ?_;refine wpList_store_mid rfl 43 _ _ rfl _ 0 (stC r (.slice A Ws.length C)) rfl rfl (R8.there 0 _ (by rw[z0o,z0f];omega)) (by rw[z0t];rfl) (z0x _ _ _ _) ?_
 go_wp2;exact z8G results112 R8 rfl r _ _ _ _ ⟨A,C,rfl,z3T (z1h HO8.out fun k' hk=>z1a (by have:=(World.ownsRow.lt HO8.out k' hk).1;omega) _ _ _) (by omega),z0b (by omega) _ _ _ HB8.out⟩ _ rfl rfl rfl rfl
def z6z(c:Nat)(h:Int)(x:Wt):Wt:=if c=0 then (if x.h0<=h then { x with h0:=0 } else x) else (if x.h1<=h then { x with h1:=0 } else x)
def z4V(c:Nat)(h:Int)(W:List Wt):List Wt:=W.map (z6z c h)
theorem z6I(F:Wt->Wt){W:List Wt}{k:Nat}{x:Wt}(hx:W[k]?=some x):(W.take (k+1)).map F ++ W.drop (k+1)=((W.take k).map F ++ W.drop k).set k (F x)/\((W.take k).map F ++ W.drop k)[k]?=some x/\((W.take k).map F ++ W.drop k).length=W.length:=by
 obtain ⟨hk,he⟩:=List.getElem?_eq_some_iff.1 hx;have hl:((W.take k).map F).length=k:=by rw[List.length_map,List.length_take];omega
 have hd:W.drop k=x :: W.drop (k+1):=by rw[← he];exact List.drop_eq_getElem_cons hk
 refine ⟨?_,?_,?_⟩
 ·rw[z1i hx,hd,List.map_append,List.set_append_right _ _ (by omega),hl,Nat.sub_self,List.append_assoc]
  rfl
 ·rw[List.getElem?_append_right (by omega),hl,Nat.sub_self,hd]
  rfl
 ·rw[List.length_append,List.length_map,← List.length_append,List.take_append_drop]
theorem q2m:∀ (W:List Wt) (k:Nat) (x x':Wt) (j:Nat) (v:Value),W[k]?=some x->j<8->wtL x'=(wtL x).set j v->wsL (W.set k x')=(wsL W).set (k * 8+j) v
 | [],k,x,x',j,v,h,_,_=>by simp at h
 | z :: W,0,x,x',j,v,h,hj,he=>by
  simp at h
  subst h
  show wtL x' ++ wsL W=(wtL z ++ wsL W).set _ _
  rw[List.set_append_left _ _ (by rw[z1S];omega),he]
  simp
 | z :: W,k+1,x,x',j,v,h,hj,he=>by
  have ih:=q2m W k x x' j v (by simpa using h) hj he
  show wtL z ++ wsL (W.set k _)=(wtL z ++ wsL W).set _ _
  rw[List.set_append_right _ _ (by rw[z1S];omega),z1S,ih]
  congr 2
  omega
theorem z2f.put{B:Nat}{w:World}{g C:Nat}{W:List Wt}(h:z2f B w (some ⟨g,0,none⟩) C W){k:Nat}{x:Wt}(hx:W[k]?=some x)(x':Wt)(j:Nat)(v:Value)(hj:j<8)(he:wtL x'=(wtL x).set j v):z2f B (w.setCell ⟨g,k * 8+j,none⟩ v) (some ⟨g,0,none⟩) C (W.set k x'):=by
 have h1:=(World.ownsRow.stored h (k * 8+j) v).1;unfold z2f;rw[q2m W k x x' j v hx hj he,List.length_set];exact h1
theorem z2f.holds{B:Nat}{w:World}{A:Option Addr}{C:Nat}{W:List Wt}(h:z2f B w A C W)(h0:0<W.length):∃ g,A=some ⟨g,0,none⟩/\B<=g/\g<w.heap.size/\∀ k x,W[k]?=some x->(w.cell? ⟨g,k * 8+6,none⟩=some (.int .i64 x.h0)/\w.cell? ⟨g,k * 8+7,none⟩=some (.int .i64 x.h1)/\w.frozen? ⟨g,k * 8+6,none⟩=false/\w.frozen? ⟨g,k * 8+7,none⟩=false):=by
 have h':=h
 rcases h.2 with ⟨hv,hn⟩ | ⟨g,cap,cur,hv,hb,hg,hrest⟩
 ·omega
 ·cases hv;refine ⟨g,rfl,hb,(Array.getElem?_eq_some_iff.1 hg).1,fun k x hx=>?_⟩
  have c:∀ j v,(wtL x)[j]?=some v->j<8->w.cell? ⟨g,k * 8+j,none⟩=some v:=fun j v hj hl=>by
   have:=World.ownsRow.cells h' (g:=g) rfl (k * 8+j) v ((z4p W k x j hx hl).trans hj)
   rwa [Addr.add_lit,Nat.zero_add]at this
  exact ⟨c 6 _ rfl (by omega),c 7 _ rfl (by omega),World.ownsRow.frozenAt h' _,World.ownsRow.frozenAt h' _⟩
end
section
structure Kp(s:St)(r:St×Int):Prop where
 good:z0h r.1=true
 bu:s.b.bu<=r.1.b.bu
 dead:∀ k,k<6->(s.V k).dead=true->(r.1.V k).dead=true
 lost:∀ k,k<6->(s.V k).lost<=(r.1.V k).lost
 no:r.2≠0->r.1=s
theorem Kp.same{s:St}(hg:z0h s=true)(e:Int):Kp s (s,e):=⟨hg,Int.le_refl _,fun _ _ h=>h,fun _ _=>Int.le_refl _,fun _=>rfl⟩
theorem j0t{s:St}(hg:z0h s=true)(d v n:Int):Kp s (z0N s d v n):=by
 by_cases h:(z0N s d v n).2=0
 ·obtain ⟨i,j,rfl,rfl,hi,hj,-,hdead,hn,hn1,hsh,hbo,hD⟩:=q4O h;obtain ⟨hB,hb1,hb2,hb3⟩:=q6x hi hbo;have hv:=z4o hg j hj;have hx:=(z1L _).1 hv.1;obtain ⟨g0,g1,g2⟩:=j4v hv.1 hn hn1 hsh;have hS:=z0z.1 (z6j hv.2 hi);have gA:=j0X (t:=n) (n:=shN (s.V j) n) hg hi hj hB hb1 hb2 hb3 (by omega) (by omega) g1 (fun _=>by omega)
  rw[hD];refine ⟨gA,by show s.b.bu<=(z2s s.b i n).1.bu;omega,fun k hk hd=>?_,fun k hk=>?_,fun h=>absurd rfl h⟩
  ·show (z1E s.V j _ k).dead=true
   unfold z1E
   split
   ·rename_i e;subst e;exact hd
   ·exact hd
  ·show (s.V k).lost<=(z1E s.V j _ k).lost
   unfold z1E
   split
   ·rename_i e;subst e;exact Int.le_refl _
   ·exact Int.le_refl _
 ·have e:(z0N s d v n).1=s:=by
   unfold z0N at h ⊢
   repeat' split
   all_goals first | rfl | (simp_all;done)
  have:=Kp.same hg (z0N s d v n).2;rw[show z0N s d v n=((z0N s d v n).1,(z0N s d v n).2) from rfl,e];exact this
theorem j7x{next next':Int}(hn:next<=next'):∀ {W:List Wt} {last:Int},wOk next last W=true->wOk next' last W=true
 | [],_,_=>rfl
 | x :: W,last,h=>by
  simp only[wOk,q0p,Bool.and_eq_true,decide_eq_true_eq]at h ⊢;obtain ⟨⟨⟨⟨⟨⟨⟨h1,h2⟩,h3⟩,h4⟩,h5⟩,h6⟩,h7⟩,h8⟩:=h;exact ⟨⟨⟨⟨⟨⟨⟨h1,by omega⟩,h3⟩,h4⟩,h5⟩,h6⟩,h7⟩,j7x hn h8⟩
theorem q2W{next:Int}(x:Wt)(hx:q0p (next - 1) (next+1) { x with num:=next }=true)(e:x.num=next):∀ {W:List Wt} {last:Int},last<next->wOk next last W=true->wOk (next+1) last (W ++ [x])=true
 | [],last,hl,_=>by
  simp only[List.nil_append,wOk,q0p,Bool.and_eq_true,decide_eq_true_eq]at hx ⊢;obtain ⟨⟨⟨⟨⟨⟨h1,h2⟩,h3⟩,h4⟩,h5⟩,h6⟩,h7⟩:=hx;exact ⟨⟨⟨⟨⟨⟨⟨by omega,by omega⟩,h3⟩,h4⟩,h5⟩,h6⟩,h7⟩,trivial⟩
 | y :: W,last,hl,h=>by
  simp only[List.cons_append,wOk,q0p,Bool.and_eq_true,decide_eq_true_eq]at h ⊢;obtain ⟨⟨⟨⟨⟨⟨⟨h1,h2⟩,h3⟩,h4⟩,h5⟩,h6⟩,h7⟩,h8⟩:=h;exact ⟨⟨⟨⟨⟨⟨⟨h1,by omega⟩,h3⟩,h4⟩,h5⟩,h6⟩,h7⟩,q2W x hx e h2 h8⟩
theorem j1x{s:St}(hg:z0h s=true){i j:Nat}(hi:i<4)(hj:j<6)(n:Int)(y:Wt):Kp s (z0O s i j n y):=by
 have hr:=z4Q hg hi hj
 by_cases h1:(decide (0<n) && inA n)=true/\0<=y.hei/\0<=y.due
 case neg=>rw[q1i hr h1];exact Kp.same hg _
 by_cases h2:n<=s.S (i:Int).toNat (j:Int).toNat
 case neg=>rw[q1w hr h1 h2];exact Kp.same hg _
 by_cases h3:s.W.length<60/\s.next<1125899906842624
 case neg=>rw[q1x hr h1 h2 h3];exact Kp.same hg _
 by_cases h4:woE (s.V (j:Int).toNat) n=0
 case neg=>rw[q1j hr h1 h2 h3 h4];exact Kp.same hg _
 by_cases h5:(z0U s.b (woN (s.V (j:Int).toNat) n)).2=0
 case neg=>rw[q1I hr h1 h2 h3 h4 h5];exact Kp.same hg _
 rw[q1l hr h1 h2 h3 h4 h5];simp only[Int.toNat_natCast]at *;have hv:=z4o hg j hj;have hx:=(z1L _).1 hv.1;have hS:=z0z.1 (z6j hv.2 hi);have hG:=(z0K s).1 hg;have hpe:=(hG.2.2.2.2.2.1 j hj).2.2;have hge:=j2k hv.2 hi;rw[hpe]at hge;obtain ⟨hn,hy0,hy1⟩:=h1;simp only[Bool.and_eq_true,decide_eq_true_eq,z0z]at hn;obtain ⟨w1,w2,-⟩:=j8l (k:=(s.V j).tok) hv.1 hn.1 (by omega) (by rw[Int.mul_comm];exact Int.mul_le_mul_of_nonneg_left (by omega) hx.1.1)
 have hwN:woN (s.V j) n=mdN n (s.V j).tok (s.V j).sh:=by unfold woN;rw[if_pos w1]
 have hmb:=z4e n (s.V j).tok (s.V j).sh;obtain ⟨m1,m2,m3,m4,m5⟩:=q1r (b:=s.b) (f:=4) (t:=5) h5;have hgm:=z9q (f:=4) (t:=5) (.inr (.inr (.inl ⟨rfl,rfl⟩))) m1 m2 m4;have hB:(z0U s.b (woN (s.V j) n)).1=(s.b.put 4 (s.b.get 4 - woN (s.V j) n)).put 5 (s.b.get 5+woN (s.V j) n):=by unfold z0U;rw[m5]
 rw[← hB]at hgm;have hbo:(z0U s.b (woN (s.V j) n)).1.bo=s.b.bo - woN (s.V j) n:=by rw[hB];rfl
 have hwa:(z0U s.b (woN (s.V j) n)).1.wa=s.b.wa+woN (s.V j) n:=by rw[hB];rfl
 have hbu:(z0U s.b (woN (s.V j) n)).1.bu=s.b.bu:=by rw[hB];rfl
 generalize (z0U s.b (woN (s.V j) n)).1=B at *;have hwo:woN (s.V j) n<=(s.V j).tok/\0<=woN (s.V j) n/\woN (s.V j) n<=1125899906842624:=by rw[hwN];omega
 have hsm:(s.V j).sh - n=0->woN (s.V j) n=(s.V j).tok:=by
  intro h0;rw[hwN];have c1:¬ (n<0∨(s.V j).tok<0∨(s.V j).sh<1):=by omega
  have e:n=(s.V j).sh:=by omega
  unfold mdN;rw[if_neg c1,e,Int.mul_comm (s.V j).sh,Int.mul_ediv_cancel _ (by omega),if_pos (by omega)]
 -- the z1d without the wait,as if the tokens had gone: all but the waits
 generalize woN (s.V j) n=wo at *;obtain ⟨g1,g2,g3,g4,g5,g6,g7,g8,g9⟩:=hG;refine ⟨?_,by show s.b.bu<=B.bu;omega,fun k hk hd=>?_,fun k hk=>?_,fun h=>absurd rfl h⟩
 ·rw[z0K];have htk:z7I (z1E s.V j { s.V j with tok:=(s.V j).tok + -wo,sh:=(s.V j).sh + -n }) 6=B.bo:=by rw[z6E _ _ _ hj,g7,hbo];show s.b.bo+((s.V j).tok + -wo) - (s.V j).tok=_;omega
  refine ⟨hgm.1,by show 1<=s.next+1;omega,by show s.next+1<=_;omega,?_,?_,fun k hk=>?_,htk,?_,?_⟩
  ·show (s.W ++ [_]).length<=60
   rw[List.length_append];simp only[List.length_cons,List.length_nil];omega
  ·show wOk (s.next+1) 0 (s.W ++ [_])=true
   refine q2W (next:=s.next) _ ?_ rfl (show (0:Int)<s.next by omega) g5
   simp only[q0p,Bool.and_eq_true,decide_eq_true_eq,z4I,z2N,z0z];omega
  ·show vOk (z1E s.V j _ k)=true/\z3f (z5N s.S i j _) k 4=true/\psh (z5N s.S i j _) k 4=(z1E s.V j _ k).sh
   refine ⟨?_,z9K _ _ _ _ _ (g6 k hk).2.1 (z0z.2 ⟨by show 0<=s.S i j + -n;omega,by show s.S i j + -n<=_;omega⟩),?_⟩
   ·unfold z1E
    split
    ·rw[z1L];exact ⟨⟨by show 0<=(s.V j).tok + -wo;omega,by show (s.V j).tok + -wo<=_;omega⟩,⟨by show 0<=(s.V j).sh + -n;omega,by show (s.V j).sh + -n<=_;omega⟩,hx.2.2.1,by show 0<(s.V j).tok + -wo->(s.V j).sh + -n≠0;omega,hx.2.2.2.2⟩
    ·exact (g6 k hk).1
   ·by_cases hkv:k=j
    ·subst hkv;rw[q6T _ _ _ _ hi,hpe];simp only[z1E,if_true];omega
    ·rw[q0W _ _ _ _ _ hkv,(g6 k hk).2.2];simp only[z1E,if_neg hkv]
  ·show z2u (s.W ++ [_])=B.wa
   rw[z3d,g8,hwa];simp only[z2u];omega
  ·show z3p (z1E s.V j _) 6=B.bu
   rw[z5x _ _ _ hj,g9,hbu];simp only;omega
 ·show (z1E s.V j _ k).dead=true
  unfold z1E
  split
  ·rename_i e;subst e;exact hd
  ·exact hd
 ·show (s.V k).lost<=(z1E s.V j _ k).lost
  unfold z1E
  split
  ·rename_i e;subst e;exact Int.le_refl _
  ·exact Int.le_refl _
theorem q2Q{s:St}(hg:z0h s=true){v:Nat}(hv:v<6)(h:Int){f:Int}(hf:0<=f/\f<=1000):Kp s (z1G s v h f,0):=by
 obtain ⟨b0,b1,b2,b3,b4⟩:=z5T hg hv h hf;obtain ⟨n1,n2,n3,n4,n5,n6,n7,n8,n9,n10,n11⟩:=z4w hg hv h hf;refine ⟨z5X hg hv h hf,by show s.b.bu<=(z1G s v h f).b.bu;omega,fun k hk hd=>?_,fun k hk=>?_,fun h=>absurd rfl h⟩
 ·show (z1E s.V v _ k).dead=true
  unfold z1E
  split
  ·rename_i e;subst e;exact hd
  ·exact hd
 ·show (s.V k).lost<=(z1E s.V v _ k).lost
  unfold z1E
  split
  ·rename_i e;subst e;show _<=(s.V k).lost+_;omega
  ·exact Int.le_refl _
theorem z5B{s:St}(hg:z0h s=true){v:Nat}(hv:v<6){j d:Bool}(hjd:d=true->j=true):z0h (z5r s v j d)=true:=by
 rw[z0K]at hg ⊢;obtain ⟨h1,h2,h3,h4,h5,h6,h7,h8,h9⟩:=hg;refine ⟨h1,h2,h3,h4,h5,fun k hk=>?_,?_,h8,?_⟩
 ·obtain ⟨i1,i2,i3⟩:=h6 k hk
  show vOk (z1E s.V v _ k)=true/\z3f s.S k 4=true/\psh s.S k 4=(z1E s.V v _ k).sh
  unfold z1E
  by_cases hkv:k=v
  ·subst hkv;rw[if_pos rfl];rw[z1L]at i1;refine ⟨?_,i2,i3⟩;rw[z1L];exact ⟨i1.1,i1.2.1,i1.2.2.1,i1.2.2.2.1,hjd⟩
  ·rw[if_neg hkv];exact ⟨i1,i2,i3⟩
 ·show z7I (z1E s.V v _) 6=s.b.bo
  rw[z6E _ _ _ hv,h7];simp only;omega
 ·show z3p (z1E s.V v _) 6=s.b.bu
  rw[z5x _ _ _ hv,h9];simp only;omega
theorem j2v{s:St}(hg:z0h s=true)(t:Int):Kp s (z5G s t,0):=by
 obtain ⟨a1,a2,a3,a4⟩:=q6U hg t;exact ⟨q2q hg t,by show s.b.bu<=(z5G s t).b.bu;omega,fun k hk h=>h,fun k hk=>Int.le_refl _,fun h=>absurd rfl h⟩
theorem z8h(c:Nat)(h:Int)(x:Wt):(z6z c h x).num=x.num/\(z6z c h x).d=x.d/\(z6z c h x).v=x.v/\(z6z c h x).hei=x.hei/\(z6z c h x).due=x.due/\(z6z c h x).amt=x.amt:=by
 unfold z6z
 repeat' split
 all_goals exact ⟨rfl,rfl,rfl,rfl,rfl,rfl⟩
theorem q5T{next h:Int}{c:Nat}:∀ {W:List Wt} {last:Int},wOk next last W=true->wOk next last (z4V c h W)=true
 | [],_,_=>rfl
 | x :: W,last,hw=>by
  obtain ⟨k1,k2,k3,k4,k5,k6⟩:=z8h c h x;simp only[wOk,Bool.and_eq_true]at hw;have ih:=q5T (c:=c) (h:=h) hw.2;have h1:=hw.1;simp only[z4V,List.map_cons,wOk,q0p,Bool.and_eq_true,decide_eq_true_eq,k1,k2,k3,k4,k5,k6]at h1 ⊢;exact ⟨h1,ih⟩
theorem q2F(c:Nat)(h:Int):∀ W:List Wt,z2u (z4V c h W)=z2u W
 | []=>rfl
 | x :: W=>by
  show (z6z c h x).amt+z2u (z4V c h W)=x.amt+z2u W
  rw[q2F c h W,(z8h c h x).2.2.2.2.2]
theorem j3f{s:St}(hg:z0h s=true)(c:Nat)(h:Int):Kp s ({ s with W:=z4V c h s.W },0):=by
 refine ⟨?_,Int.le_refl _,fun _ _ h=>h,fun _ _=>Int.le_refl _,fun h=>absurd rfl h⟩;rw[z0K]at hg ⊢;obtain ⟨h1,h2,h3,h4,h5,h6,h7,h8,h9⟩:=hg;exact ⟨h1,h2,h3,by show (z4V c h s.W).length<=60;unfold z4V;rw[List.length_map];exact h4,q5T h5,h6,h7,by show z2u (z4V c h s.W)=_;rw[q2F];exact h8,h9⟩
end
namespace Pv
open Go.RowKit
def isC(c:Int):Bool:=decide (0<=c) && decide (c<2)
def z0Q(L:Nat->Lk)(c:Nat)(x:Lk):Nat->Lk:=fun i=>if i=c then x else L i
def z2j(p:Pr)(d v n:Int):Pr×Int:=if z0B p=true then ({ p with s:=(z0N p.s d v n).1 },(z0N p.s d v n).2) else (p,2)
def z2P(p:Pr)(c:Nat):Int:=if (p.L c).on=true then p.h+1 else 0
def z1j(L:Nat->Lk):Nat->Lk:=fun c=>if (L c).on=true then { L c with fresh:=true } else L c
def z9S(p:Pr)(now:Int):Wt:=⟨0,0,0,0,p.h+1,now+20,z2P p 0,z2P p 1⟩
def z1t(p:Pr)(d v n now:Int):Pr×Int:=
 if z0B p=true/\isT now=true then
  if (z0O p.s d v n (z9S p now)).2=0 then ({ p with s:=(z0O p.s d v n (z9S p now)).1,L:=z1j p.L },0) else (p,(z0O p.s d v n (z9S p now)).2)
 else (p,2)
def z1B(c:Nat)(h:Int)(x:Wt):Wt:=if x.hei=h then (if c=0 then { x with h0:=h } else { x with h1:=h }) else x
def q0U(p:Pr):Lk:=⟨true,false,p.h,p.set,p.s.W.any (fun x=>decide (x.hei=p.h+1)),[],⟨[],[],0,false⟩,0,0,0,0⟩
def z0T(p:Pr)(c:Int):Pr×Int:=
 if z0B p=true then
  if isC c=true then
   if (p.L c.toNat).gone=true then (p,11)
   else if (p.L c.toNat).on=true then (p,5)
   else if p.h=0∨p.set.length=0 then (p,13)
   else ({ p with s:={ p.s with W:=p.s.W.map (z1B c.toNat (p.h+1)) },L:=z0Q p.L c.toNat (q0U p) },0)
  else (p,4)
 else (p,2)
def z3W(x:Lk):Lk:={ x with on:=false,gone:=true,fresh:=false,done:=[],out:={ x.out with cl:=true } }
def z8k(p:Pr)(c:Int):Bool:=isC c && (p.L c.toNat).on
def z0A(p:Pr)(c:Int):Pr:=
 if z0B p=true/\z8k p c=true then { p with s:={ p.s with W:=z4V c.toNat 1099511627776 p.s.W },L:=z0Q p.L c.toNat (z3W (p.L c.toNat)),q:=p.q.filter fun a=>decide (a.1≠c) } else p
def z3E(p:Pr)(c:Int)(l:List Int):Pr×Int:=
 if z0B p=true then
  if z8k p c=true then
   if Cd.z7G l=0 then
    if (z3H l).k=1 then (p,3) else ({ p with q:=p.q ++ [(c,z3H l)] },0)
   else (p,Cd.z7G l)
  else (p,4)
 else (p,2)
def z8d(s:St)(v:Nat)(h:Int):St:=z5r (z1G s v h 50) v true true
def z3z(p:Pr)(v h:Int):Pr×Int:=
 if z0B p=true then
  if isV v=true then
   if 1<=h/\h<=p.h then
    if (p.s.V v.toNat).dead=true then (p,15) else ({ p with s:=z8d p.s v.toNat h },0)
   else (p,2)
  else (p,4)
 else (p,2)
def z2T(D:List Int)(v:Int):List Int:=((List.range 6).map Int.ofNat).filter fun u=>decide (u=v) || decide (u∈D)
def j3I(x:Vd):Int:=if x.tok / 100<1 then 1 else x.tok / 100
def j3W(a b:Int):Int:=if a<b then b else a
def z1A(p:Pr)(c:Nat)(x:Pkt):Pr×Bool:=
 if x.k=2 then ({ p with s:={ p.s with W:=z4V c x.i p.s.W } },true)
 else if x.k=4 then
  if (p.s.V x.v.toNat).dead=true then (p,true) else ({ p with s:=z8d p.s x.v.toNat (j3W x.i (p.L c).base) },true)
 else if (p.s.V x.v.toNat).jail=true then ({ p with L:=z0Q p.L c { p.L c with done:=z2T (p.L c).done x.v } },true)
 else if p.ml<1 then (p,false)
 else ({ p with ml:=wrap64 (p.ml - j3I (p.s.V x.v.toNat)),s:=z5r p.s x.v.toNat true (p.s.V x.v.toNat).dead,L:=z0Q p.L c { p.L c with done:=z2T (p.L c).done x.v } },true)
structure QS where
 p:Pr
 wt:Nat->Bool
 left:List (Int×Pkt)
def z1R(z:QS)(a:Int×Pkt):QS:=
 if z.wt a.1.toNat=true then { z with left:=z.left ++ [a] }
 else if (z1A z.p a.1.toNat a.2).2=true then { z with p:=(z1A z.p a.1.toNat a.2).1 }
 else { z with wt:=fun i=>if i=a.1.toNat then true else z.wt i,left:=z.left ++ [a] }
def goQ(p:Pr):QS:=p.q.foldl z1R ⟨p,fun _=>false,[]⟩
def z0L(p:Pr):Pr:={ (goQ p).p with q:=(goQ p).left }
def z7z(p:Pr)(x:Lk):Bool:=!x.on || (decide (x.told=p.set) && !x.fresh && decide (x.done.length=0))
def z1u(p:Pr)(c:Nat):Pr:=
 if z7z p (p.L c)=true then p
 else if Cd.z0q 1 p.h 0 0 (Df.z6w (p.L c).told p.set) (p.L c).done=0 then
  if Ln.z6h (p.L c).out (p.t+40)=0 then { p with L:=z0Q p.L c { p.L c with out:=Ln.z4W (p.L c).out (Cd.encS 1 p.h 0 0 (Df.z6w (p.L c).told p.set) (p.L c).done) (p.t+40),told:=p.set,fresh:=false,done:=[] } } else p
 else p
def z0V(p:Pr)(now:Int):Pr:={ p with h:=p.h+1,t:=now,ml:=if now<p.mn then p.ml else Mt.alw (Df.q5j p.set),mn:=if now<p.mn then p.mn else wrap64 (now+10) }
def z4c(p:Pr)(now:Int):Pr:={ p with s:=z5G p.s now,set:=z6L (z5G p.s now).V }
def endP(p:Pr)(now:Int):Pr×List Int×Int:=
 if z0B p=true/\isT now=true/\p.t<=now then
  (z1u (z1u (z4c (z0L (z0V p now)) now) 0) 1,z1X now (z0L (z0V p now)).s.W,0)
 else (p,[],2)
def newP:Pr:=⟨0,0,j7z,[],fun _=>⟨false,false,0,[],false,[],⟨[],[],0,false⟩,0,0,0,0⟩,1,10,[]⟩
theorem z3A(n:Int)(w:World):Calls prog 76 #[.int .i64 n] w fun e w'=>e=.returned (.bool (isT n))/\w=w':=by
 have hT:isT n=(decide (0<=n) && decide (n<=1099511627776)):=rfl;generalize isT n=t at *;have HT:=hide hT;clear hT
 by_cases h:0<=n
 ·by_cases h2:n<=1099511627776
  ·have e:t=true:=by rw[HT.out];simp[h,h2]
   subst e
   go_enter func76,ntmps76
   go_wp2;go_ret;exact ⟨rfl,rfl⟩
  ·have e:t=false:=by rw[HT.out];simp[h2]
   subst e
   go_enter func76,ntmps76
   go_wp2;go_ret;exact ⟨rfl,rfl⟩
 ·have e:t=false:=by rw[HT.out];simp[h]
  subst e
  go_enter func76,ntmps76
  go_wp2;go_ret;exact ⟨rfl,rfl⟩
theorem z2F(n:Int)(w:World):Calls prog 87 #[.int .i64 n] w fun e w'=>e=.returned (.bool (isC n))/\w=w':=by
 have hT:isC n=(decide (0<=n) && decide (n<2)):=rfl;generalize isC n=t at *;have HT:=hide hT;clear hT
 by_cases h:0<=n
 ·by_cases h2:n<2
  ·have e:t=true:=by rw[HT.out];simp[h,h2]
   subst e
   go_enter func87,ntmps87
   go_wp2;go_ret;exact ⟨rfl,rfl⟩
  ·have e:t=false:=by rw[HT.out];simp[h2]
   subst e
   go_enter func87,ntmps87
   go_wp2;go_ret;exact ⟨rfl,rfl⟩
 ·have e:t=false:=by rw[HT.out];simp[h]
  subst e
  go_enter func87,ntmps87
  go_wp2;go_ret;exact ⟨rfl,rfl⟩
theorem z3g(v:Int)(w:World):Calls prog 80 #[.int .i64 v] w fun e w'=>e=.returned (.bool (isV v))/\w=w':=by
 have hT:isV v=decide (0<=v/\v<6):=rfl;generalize isV v=t at *;have HT:=hide hT;clear hT
 by_cases h:0<=v
 ·by_cases h2:v<6
  ·have e:t=true:=by rw[HT.out];simp[h,h2]
   subst e
   go_enter func80,ntmps80
   go_wp2;go_ret;exact ⟨rfl,rfl⟩
  ·have e:t=false:=by rw[HT.out];simp[h2]
   subst e
   go_enter func80,ntmps80
   go_wp2;go_ret;exact ⟨rfl,rfl⟩
 ·have e:t=false:=by rw[HT.out];simp[h]
  subst e
  go_enter func80,ntmps80
  go_wp2;go_ret;exact ⟨rfl,rfl⟩
theorem j9a{c:Nat}(hc:c<2):isC (c:Int)=true:=by unfold isC;simp;omega
theorem z8F{c:Int}(h:isC c=true):∃ k:Nat,c=(k:Int)/\k<2:=by
 unfold isC at h;simp only[Bool.and_eq_true,decide_eq_true_eq]at h;exact ⟨c.toNat,by omega,by omega⟩
theorem j7n{c:Int}(h:isV c=true):∃ k:Nat,c=(k:Int)/\k<6:=by
 have:=z2N.1 h;exact ⟨c.toNat,by omega,by omega⟩
theorem z6S(g:Nat)(p:Pr)(v:PrV)(w:World)(h:CAt 57 w g (prC p v))(h0:0<=p.h)(h1:p.h<=1099511627776):Calls prog 77 #[.pointer (some ⟨g,0,none⟩)] w fun e w'=>e=.returned (.int .i64 (p.h+1))/\w=w':=by
 have c0:w.cell? ⟨g,0,none⟩=some (.int .i64 p.h):=h.cell 0;clear h
 go_enter func77,ntmps77
 go_wp2;go_ret;exact ⟨rfl,rfl⟩
theorem z5p(g:Nat)(p:Pr)(v:PrV)(c:Int)(w:World)(h:CAt 57 w g (prC p v)):Calls prog 103 #[.pointer (some ⟨g,0,none⟩),.int .i64 c] w fun e w'=>e=.returned (.bool (z8k p c))/\w=w':=by
 have hO:z8k p c=(isC c && (p.L c.toNat).on):=rfl;generalize z8k p c=o at *
 by_cases hc:isC c=true
 ·obtain ⟨k,rfl,hk⟩:=z8F hc;rw[hc,Bool.true_and,Int.toNat_natCast]at hO
  have c0:w.cell? ⟨g,66+k * 14,none⟩=some (.bool (p.L k).on):=by
   have:=z4j (p:=p) (v:=v) k hk 0 (by omega)
   rw[Nat.add_zero]at this;exact (h.cell _).trans this
  have k0:(0:Int)<=(k:Int):=by omega
  have k2:(k:Int)<2:=by omega
  subst hO;generalize (p.L k).on=o at *;clear h
  go_enter func103,ntmps103
  go_wp2_with (go_at_call 87;refine (z2F _ _).mono ?_;rintro e w' ⟨rfl,rfl⟩)
  go_ret;exact ⟨rfl,rfl⟩
 ·have hc:isC c=false:=by simpa using hc
  rw[hc,Bool.false_and]at hO;subst hO;clear h
  go_enter func103,ntmps103
  go_wp2_with (go_at_call 87;refine (z2F _ _).mono ?_;rintro e w' ⟨rfl,rfl⟩)
  go_ret;exact ⟨rfl,rfl⟩
theorem z9f(l:List (Int×Int))(v:Value)(P:Nat->Prop)(w:World)(h:Rep P w v 2 16 (pwC l)):Calls prog 101 #[v] w fun e w'=>e=.returned (.bool (z3k (-1) l))/\Below w.heap.size w w':=by
 obtain ⟨A,C,rfl,hs,-,hc,-⟩:=h.open (z0c _) (by decide)
 have HC:=hide hc;have hlen:l.length<=8796093022202:=by omega
 obtain ⟨G,hG⟩:∃ G,z3k (-1) l=G:=⟨_,rfl⟩;have HG:=hide hG;rw[hG];clear hc h hs hG
 go_enter func101,ntmps101
 go_upto_region 3 with fail
 go_loopw [3,8] (fun s3 i wl=>∃ (k:Nat) (last:Int),k<=l.length/\i=.int .i64 (k:Int)/\s3=.int .i64 last/\-1<=last/\Hid (G=z3k last (l.drop k)/\Below w.heap.size w wl)) (fun _ i _=>l.length - (intOf i).toNat)
 case atStart=>exact ⟨0,-1,Nat.zero_le _,rfl,rfl,by omega,HG.out.symm,Below.refl _ _⟩
 case round =>
  obtain ⟨k,last,hk,rfl,rfl,hla,HR⟩:=hrel
  by_cases hlt:k<l.length
  ·have hkI:(k:Int)<(l.length:Int):=by omega
   obtain ⟨x,hx,hd⟩:=z4u hlt;obtain ⟨b,off,rfl,-,hbl,hcell⟩:=HC.out (by omega)
   have gx:l.getD k (0,0)=x:=by simp[List.getD,hx]
   obtain ⟨p0,p1⟩:=z1U l k hlt;rw[gx]at p0 p1;have c0:wr.cell? ⟨b,off+k * 2,none⟩=some (.int .i64 x.1):=(HR.out.2.cell (p:=⟨b,off+k * 2,none⟩) hbl).trans (hcell _ _ p0);have c1:wr.cell? ⟨b,off+k * 2+1,none⟩=some (.int .i64 x.2):=(HR.out.2.cell (p:=⟨b,off+k * 2+1,none⟩) hbl).trans (hcell _ _ p1);have HE:Hid (G=(z7J last x && z3k x.1 (l.drop (k+1)))):=by have:=HR.out.1;rw[hd]at this;exact this
   have HB:=hide (HR.out.2.alloc HR.out.2.size (.cells #[.int .i64 x.1,.int .i64 x.2] 68));have HO:Hid (∀ last,z7J last x=(decide (last<x.1) && decide (x.1<=5) && decide (1<=x.2) && decide (x.2<=1125899906842624))):=fun _=>rfl;have hvI:Hid (isV x.1=decide (0<=x.1/\x.1<6)):=rfl;clear HR hd hx gx p0 p1 hcell;obtain ⟨x1,x2⟩:=x;dsimp only at c0 c1 hvI
   by_cases h1:last<x1/\x1<=5/\1<=x2/\x2<=1125899906842624
   ·obtain ⟨h1,h2,h3,h4⟩:=h1;have e:G=z3k x1 (l.drop (k+1)):=by rw[HE.out,HO.out];simp[h1,h2,h3,h4]
    have HE2:=hide e;have hv:isV x1=true:=by rw[hvI.out];simp;omega
    clear e HE
    go_wp2_with (go_at_call 80;refine (z3g _ _).mono ?_;rintro e w' ⟨rfl,rfl⟩)
    first | exact ⟨⟨k+1,x1,by omega,by go_num,rfl,by omega,HE2.out,HB.out⟩,by simp[intOf];omega⟩ | ((repeat apply Exists.intro);exact ⟨⟨k+1,x1,by omega,by go_num,rfl,by omega,HE2.out,HB.out⟩,rfl⟩)
   ·have e:G=false:=by
     rw[HE.out,HO.out];simp only[Bool.and_eq_false_iff,decide_eq_false_iff_not]
     by_cases q1:last<x1
     ·by_cases q2:x1<=5
      ·by_cases q3:1<=x2
       ·exact .inl (.inr fun q4=>h1 ⟨q1,q2,q3,q4⟩)
       ·exact .inl (.inl (.inr q3))
      ·exact .inl (.inl (.inl (.inr q2)))
     ·exact .inl (.inl (.inl (.inl q1)))
    subst e;clear HE HG
    have hcs:¬ last<x1∨(last<x1/\isV x1=false)∨(last<x1/\isV x1=true/\¬ 1<=x2)∨(last<x1/\isV x1=true/\1<=x2/\¬ x2<=1125899906842624):=by
     by_cases q1:last<x1
     ·by_cases q2:x1<=5
      ·have hv:isV x1=true:=by rw[hvI.out];simp;omega
       by_cases q3:1<=x2
       ·exact .inr (.inr (.inr ⟨q1,hv,q3,fun q4=>h1 ⟨q1,q2,q3,q4⟩⟩))
       ·exact .inr (.inr (.inl ⟨q1,hv,q3⟩))
      ·have hv:isV x1=false:=by rw[hvI.out];simp;omega
       exact .inr (.inl ⟨q1,hv⟩)
     ·exact .inl q1
    clear h1
    rcases hcs with h1 | ⟨h1,h2⟩ | ⟨h1,h2,h3⟩ | ⟨h1,h2,h3,h4⟩
    all_goals
     go_wp2_with (go_at_call 80;refine (z3g _ _).mono ?_;rintro e w' ⟨rfl,rfl⟩)
     go_ret;exact ⟨rfl,HB.out⟩
  ·obtain rfl:k=l.length:=by omega
   have e:G=true:=by have:=HR.out.1;rw[List.drop_length]at this;exact this
   subst e;go_wp2;go_ret;exact ⟨rfl,HR.out.2⟩
theorem q5t(l:List Int)(v:Value)(P:Nat->Prop)(w:World)(h:Rep P w v 1 8 (inC l)):Calls prog 144 #[v] w fun e w'=>e=.returned (.bool (z2m (-1) l))/\w=w':=by
 obtain ⟨A,C,rfl,hs,-,hc,-⟩:=h.open (z0n _) (by decide)
 have HC:=hide hc;have hlen:l.length<=17592186044405:=by omega
 obtain ⟨G,hG⟩:∃ G,z2m (-1) l=G:=⟨_,rfl⟩;have HG:=hide hG;rw[hG];clear hc h hs hG
 go_enter func144,ntmps144
 go_upto_region 3 with fail
 go_loop [3,8] (fun s3 i=>∃ (k:Nat) (last:Int),k<=l.length/\i=.int .i64 (k:Int)/\s3=.int .i64 last/\-1<=last/\Hid (G=z2m last (l.drop k))) (fun _ i=>l.length - (intOf i).toNat)
 case atStart=>exact ⟨0,-1,Nat.zero_le _,rfl,rfl,by omega,HG.out.symm⟩
 case round =>
  obtain ⟨k,last,hk,rfl,rfl,hla,HR⟩:=hrel
  by_cases hlt:k<l.length
  ·have hkI:(k:Int)<(l.length:Int):=by omega
   obtain ⟨x,hx,hd⟩:=z4u hlt;obtain ⟨b,off,rfl,-,hbl,hcell⟩:=HC.out (by omega)
   have gx:l.getD k 0=x:=by simp[List.getD,hx]
   have p0:=z4q l k hlt;rw[gx]at p0;have c0:w.cell? ⟨b,off+k,none⟩=some (.int .i64 x):=hcell _ _ p0;have HE:Hid (G=((decide (last<x) && decide (x<=5)) && z2m x (l.drop (k+1)))):=by have:=HR.out;rw[hd]at this;exact this
   have hvI:Hid (isV x=decide (0<=x/\x<6)):=rfl;clear HR hd hx gx p0 hcell
   by_cases h1:last<x/\x<=5
   ·obtain ⟨h1,h2⟩:=h1;have e:G=z2m x (l.drop (k+1)):=by rw[HE.out];simp[h1,h2]
    have HE2:=hide e;have hv:isV x=true:=by rw[hvI.out];simp;omega
    clear e HE
    go_wp2_with (go_at_call 80;refine (z3g _ _).mono ?_;rintro e w' ⟨rfl,rfl⟩)
    go_round
    case rel=>exact ⟨k+1,x,by omega,by go_num,rfl,by omega,HE2⟩
    case measure=>simp[intOf];omega
   ·have e:G=false:=by
     rw[HE.out]
     have:(decide (last<x) && decide (x<=5))=false:=by
      rw[Bool.eq_false_iff];intro h;simp only[Bool.and_eq_true,decide_eq_true_eq]at h;exact h1 h
     rw[this,Bool.false_and]
    subst e;clear HE HG
    have hcs:¬ last<x∨(last<x/\isV x=false):=by
     by_cases q1:last<x
     ·have hv:isV x=false:=by rw[hvI.out];simp;omega
      exact .inr ⟨q1,hv⟩
     ·exact .inl q1
    clear h1
    rcases hcs with h1 | ⟨h1,h2⟩
    all_goals
     go_wp2_with (go_at_call 80;refine (z3g _ _).mono ?_;rintro e w' ⟨rfl,rfl⟩)
     go_ret;exact ⟨rfl,rfl⟩
  ·obtain rfl:k=l.length:=by omega
   have e:G=true:=by have:=HR.out;rw[List.drop_length]at this;exact this
   subst e;go_wp2;go_ret;exact ⟨rfl,rfl⟩
end Pv
namespace Df
open Go.RowKit
theorem q3h{w:World}{B B':Nat}{v:Value}{l:List Pw}(h:z5a w B v l)(hb:B'<=B):z5a w B' v l:=by
 refine ⟨h.1,?_⟩
 rcases h.2 with hn | ⟨g,cap,cur,hv,h2,h3⟩
 ·exact .inl hn
 ·exact .inr ⟨g,cap,cur,hv,Nat.le_trans hb h2,h3⟩
theorem ix0(c0 c1 c2 c3 c4 c5:Value)(w:World):(Instr.index 39 (.agg #[c0,c1,c2,c3,c4,c5]) (.int .i64 0)).run prog w=.ok c0 w:=by kernel_rfl
theorem ix1(c0 c1 c2 c3 c4 c5:Value)(w:World):(Instr.index 39 (.agg #[c0,c1,c2,c3,c4,c5]) (.int .i64 1)).run prog w=.ok c1 w:=by kernel_rfl
theorem ix2(c0 c1 c2 c3 c4 c5:Value)(w:World):(Instr.index 39 (.agg #[c0,c1,c2,c3,c4,c5]) (.int .i64 2)).run prog w=.ok c2 w:=by kernel_rfl
theorem ix3(c0 c1 c2 c3 c4 c5:Value)(w:World):(Instr.index 39 (.agg #[c0,c1,c2,c3,c4,c5]) (.int .i64 3)).run prog w=.ok c3 w:=by kernel_rfl
theorem ix4(c0 c1 c2 c3 c4 c5:Value)(w:World):(Instr.index 39 (.agg #[c0,c1,c2,c3,c4,c5]) (.int .i64 4)).run prog w=.ok c4 w:=by kernel_rfl
theorem ix5(c0 c1 c2 c3 c4 c5:Value)(w:World):(Instr.index 39 (.agg #[c0,c1,c2,c3,c4,c5]) (.int .i64 5)).run prog w=.ok c5 w:=by kernel_rfl
theorem j6X(P:Nat->Int){k:Nat}(hk:k<6)(w:World):(Instr.index 39 (.agg #[.int .i64 (P 0),.int .i64 (P 1),.int .i64 (P 2),.int .i64 (P 3),.int .i64 (P 4),.int .i64 (P 5)]) (.int .i64 (k:Int))).run prog w=.ok (.int .i64 (P k)) w:=by
 rcases (show k=0∨k=1∨k=2∨k=3∨k=4∨k=5 by omega) with rfl | rfl | rfl | rfl | rfl | rfl
 ·exact ix0 _ _ _ _ _ _ w
 ·exact ix1 _ _ _ _ _ _ w
 ·exact ix2 _ _ _ _ _ _ w
 ·exact ix3 _ _ _ _ _ _ w
 ·exact ix4 _ _ _ _ _ _ w
 ·exact ix5 _ _ _ _ _ _ w
theorem j1J(a b:List Pw)(ao bo:Option Addr)(ca cb ab aof bb bof:Nat)(w:World)(ha:PIn w a ao ab aof)(hb:PIn w b bo bb bof) :
  Calls prog 121 #[.slice ao a.length ca,.slice bo b.length cb] w fun e w'=>∃ v,e=.returned v/\z5a w' w.heap.size v (z6w a b)/\Below w.heap.size w w':=by
 obtain ⟨i0,hi,hz0,hz1,hz2⟩:=info_parts q8O;have HA:=hide ha;have HB:=hide hb;have HF1:=hide (q0I a ao ca ab aof w ha);have HF2:=hide (fun w h=>q0I b bo cb bb bof w h);unfold z6w;generalize z2v a=P at *;generalize z2v b=R at *;clear ha hb
 go_enter func121,ntmps121
 go_upto_region 3 with (first
  | (go_at_call 161;have _m:=m1;refine (HF2.out _ (HB.out.over HB1.out)).mono ?_;rintro e w2 ⟨rfl,hb2⟩;have HB2:=hide (zbt HB1.out hb2);clear hb2)
  | (go_at_call 161;refine HF1.out.mono ?_;rintro e w1 ⟨rfl,hb1⟩;have HB1:=hide hb1;have m1:True:=trivial;clear hb1))
 have Q6:=(QAt.new w2 P).alloc (.cells #[.int .i64 (R 0),.int .i64 (R 1),.int .i64 (R 2),.int .i64 (R 3),.int .i64 (R 4),.int .i64 (R 5)] 39);have Q7:=QAt.new (w2.alloc (.cells #[.int .i64 (P 0),.int .i64 (P 1),.int .i64 (P 2),.int .i64 (P 3),.int .i64 (P 4),.int .i64 (P 5)] 39)) R;rw[show (w2.alloc (.cells #[.int .i64 (P 0),.int .i64 (P 1),.int .i64 (P 2),.int .i64 (P 3),.int .i64 (P 4),.int .i64 (P 5)] 39)).heap.size=w2.heap.size+1 by simp]at Q7
 have BW:=(HB2.out.alloc HB2.out.size (.cells #[.int .i64 (P 0),.int .i64 (P 1),.int .i64 (P 2),.int .i64 (P 3),.int .i64 (P 4),.int .i64 (P 5)] 39)).alloc (Nat.le_trans HB2.out.size (by simp)) (.cells #[.int .i64 (R 0),.int .i64 (R 1),.int .i64 (R 2),.int .i64 (R 3),.int .i64 (R 4),.int .i64 (R 5)] 39)
 have hwb:w.heap.size<=w2.heap.size:=HB2.out.size;clear HF1 HF2 HA HB HB1 HB2;generalize w2.heap.size=b6 at *;generalize (w2.alloc (.cells #[.int .i64 (P 0),.int .i64 (P 1),.int .i64 (P 2),.int .i64 (P 3),.int .i64 (P 4),.int .i64 (P 5)] 39)).alloc (.cells #[.int .i64 (R 0),.int .i64 (R 1),.int .i64 (R 2),.int .i64 (R 3),.int .i64 (R 4),.int .i64 (R 5)] 39)=w3 at *;obtain ⟨⟨c0,c1,c2,c3,c4,c5⟩,-⟩:=Q7.facts;have z6:b6<w3.heap.size:=Q6.lt;have HX:=hide (And.intro Q6 BW);clear Q6 Q7 BW
 go_upto_region 4 with fail
 clear c0 c1 c2 c3 c4 c5
 go_loopw [5,15] (fun v i wl=>∃ k:Nat,k<=6/\i=.int .i64 (k:Int)/\z5a wl w3.heap.size v (those (fun v=>decide (R v≠P v)) R k)/\Hid (Below w3.heap.size w3 wl)) (fun _ i _=>(6 - intOf i).toNat)
 case atStart=>exact ⟨0,by omega,rfl,z5a.nil _ _,Below.refl _ _⟩
 case round =>
  obtain ⟨k,hk,rfl,hown,HB⟩:=hrel;have hsz:w3.heap.size<=wr.heap.size:=HB.out.size
  by_cases hk6:k<6
  ·have hkk:(k:Int)<6:=by omega
   have hix:=fun w=>j6X R hk6 w;have cP:=(HX.out.1.later HB.out z6).one hk6;have HC:=hide (z3u (fun v=>decide (R v≠P v)) R k);have hlen:=z3D (fun v=>decide (R v≠P v)) R k;generalize R k=rk at *;generalize P k=pk at *
   by_cases hne:rk=pk
   ·subst hne;go_wp2;exact ⟨⟨k+1,by omega,by go_num,by rw[HC.out,if_neg (by simp)];exact hown,HB.out⟩,by simp[intOf];omega⟩
   ·have hne':(rk != pk)=true:=by simpa using hne
    go_wp2_with (at_builtin;refine wpList_append_own_at _ rfl _ _ 44 rfl w3.heap.size 68 i0 (.agg #[.int .i64 0,.int .i64 0]) 2 16 underlying44 hi hz0 hz1 hz2 rfl (by decide) _ _ _ rfl (World.ownsRow.alloc hown _) ⟨wr.heap.size,0,none⟩ 1 1 [.int .i64 (k:Int),.int .i64 rk] rfl rfl (q2f _ _ _ _) (by intro u hu;simp at hu;rcases hu with rfl | rfl <;> rfl) (by unfold maxLen;omega) (by omega) (by simp;omega) ?_;intro v' w1 hown' hgrow _ hat)
    have hb:Below w3.heap.size w3 w1:=z5a.grow hown HB.out hgrow (Nat.le_refl _) hsz;refine ⟨⟨k+1,by omega,by go_num,?_,hb⟩,by simp[intOf];omega⟩
    rw[HC.out,if_pos (by simpa using hne)]
    exact z5a.append hown' rfl
  ·obtain rfl:k=6:=by omega
   go_wp2;go_ret;exact ⟨_,rfl,q3h hown (by have:=HX.out.2.size;omega),zbt HX.out.2 HB.out⟩
theorem q8i(a d:List Pw)(ao bo:Option Addr)(ca cb ab aof bb bof:Nat)(w:World)(ha:PIn w a ao ab aof)(hd:PIn w d bo bb bof) :
  Calls prog 15 #[.slice ao a.length ca,.slice bo d.length cb] w fun e w'=>∃ v,e=.returned v/\z5a w' w.heap.size v (z3X a d)/\Below w.heap.size w w':=by
 obtain ⟨i0,hi,hz0,hz1,hz2⟩:=info_parts q8O;have hla:=ha.len;have hld:=hd.len;have HA:=hide ha;have HD:=hide hd;have Q0:=QAt.new w z3F;dsimp only [z3F]at Q0;have B0:Below w.heap.size w (w.alloc (.cells #[.int .i64 0,.int .i64 0,.int .i64 0,.int .i64 0,.int .i64 0,.int .i64 0] 39)):=znw w _;have hb5:w.heap.size<=w.heap.size:=Nat.le_refl _;clear ha hd
 go_enter func15,ntmps15
 go_upto_region 2 with fail
 have HX:Hid (QAt (w.alloc (.cells #[.int .i64 0,.int .i64 0,.int .i64 0,.int .i64 0,.int .i64 0,.int .i64 0] 39)) w.heap.size z3F/\_):=⟨Q0,B0⟩;clear Q0 B0;obtain ⟨b5,eb5⟩:∃ b5,w.heap.size=b5:=⟨_,rfl⟩;have hb5:w.heap.size<=b5:=Nat.le_of_eq eb5;rw[show (Value.pointer (some ⟨w.heap.size,0,none⟩))=.pointer (some ⟨b5,0,none⟩) by rw[eb5]]
 generalize w.alloc (.cells #[.int .i64 0,.int .i64 0,.int .i64 0,.int .i64 0,.int .i64 0,.int .i64 0] 39)=w0 at *;have HX2:Hid (QAt w0 b5 z3F/\Below w.heap.size w w0):=by have:=HX.out;rw[eb5]at this;rw[eb5];exact this
 clear HX eb5
 go_upto_region 3 with fail
 go_loopw [15] (fun i wl=>∃ k:Nat,k<=a.length/\i=.int .i64 (k:Int)/\Hid (QAt wl b5 (z3r (z3F) (a.take k))/\Below w.heap.size w wl)) (fun i _=>a.length - (intOf i).toNat)
 case atStart=>exact ⟨0,Nat.zero_le _,rfl,HX2.out.1,HX2.out.2⟩
 case round =>
  obtain ⟨k,hk,rfl,HR⟩:=hrel
  by_cases hlt:k<a.length
  ·have hkI:(k:Int)<(a.length:Int):=by omega
   obtain ⟨c0,c1⟩:=(HA.out.later HR.out.2 HA.out.ltB).cells k hlt;have HS:=hide (z7Z (z3F) a k hlt);have eao:=HA.out.adr (by omega)
   subst eao;generalize a.getD k (0,0)=x at *;obtain ⟨v,n⟩:=x;dsimp only at c0 c1;have Q1:=HR.out.1.alloc (.cells #[.int .i64 v,.int .i64 n] 68);have HQ1:=hide (And.intro Q1 (HR.out.2.alloc HR.out.2.size (.cells #[.int .i64 v,.int .i64 n] 68)));clear Q1
   go_wp2_with (go_at_call 32;refine (z6Z b5 v n _ _ HQ1.out.1).mono ?_;rintro e w1 ⟨rfl,hq,hg⟩;have HQ:=hide hq;have HG:=hide hg;clear hq hg)
   refine ⟨⟨k+1,by omega,by go_num,by rw[HS.out];exact HQ.out,HQ1.out.2.trans (z4J HG.out hb5 HQ1.out.2.size)⟩,by simp[intOf];omega⟩
  ·obtain rfl:k=a.length:=by omega
   have hT:a.take a.length=a:=List.take_length;rw[hT]at HR;have HR2:=hide HR.out;clear HR hT HX2 HA
   go_upto_region 8 with fail
   go_loopw [24] (fun i wl=>∃ k:Nat,k<=d.length/\i=.int .i64 (k:Int)/\Hid (QAt wl b5 (z3r (z3r z3F a) (d.take k))/\Below w.heap.size w wl)) (fun i _=>d.length - (intOf i).toNat)
   case atStart=>exact ⟨0,Nat.zero_le _,rfl,HR2.out.1,HR2.out.2⟩
   case round =>
    obtain ⟨k,hk,rfl,HR⟩:=hrel
    by_cases hlt:k<d.length
    ·have hkI:(k:Int)<(d.length:Int):=by omega
     obtain ⟨c0,c1⟩:=(HD.out.later HR.out.2 HD.out.ltB).cells k hlt;have HS:=hide (z7Z (z3r z3F a) d k hlt);have eao:=HD.out.adr (by omega)
     subst eao;generalize d.getD k (0,0)=x at *;obtain ⟨v,n⟩:=x;dsimp only at c0 c1;have Q1:=HR.out.1.alloc (.cells #[.int .i64 v,.int .i64 n] 68);have HQ1:=hide (And.intro Q1 (HR.out.2.alloc HR.out.2.size (.cells #[.int .i64 v,.int .i64 n] 68)));clear Q1
     go_wp2_with (go_at_call 32;refine (z6Z b5 v n _ _ HQ1.out.1).mono ?_;rintro e w1 ⟨rfl,hq,hg⟩;have HQ:=hide hq;have HG:=hide hg;clear hq hg)
     refine ⟨⟨k+1,by omega,by go_num,by rw[HS.out];exact HQ.out,HQ1.out.2.trans (z4J HG.out hb5 HQ1.out.2.size)⟩,by simp[intOf];omega⟩
    ·obtain rfl:k=d.length:=by omega
     have hT:d.take d.length=d:=List.take_length;rw[hT]at HR;have HR3:=hide HR.out;clear HR hT HR2 HD;have e1:z3X a d=those (fun v=>decide (0<z3r (z3r z3F a) d v)) (z3r (z3r z3F a) d) 6:=rfl;obtain ⟨P,hP⟩:∃ P,z3r (z3r z3F a) d=P:=⟨_,rfl⟩;rw[hP]at e1 HR3;have HE:=hide e1;clear e1 hP;obtain ⟨⟨c0,c1,c2,c3,c4,c5⟩,-⟩:=HR3.out.1.facts;obtain ⟨wz,rfl⟩:∃ wz,wz=wr:=⟨_,rfl⟩
     go_upto_region 14 with fail
     go_loopw [10,32] (fun v i wl=>∃ k:Nat,k<=6/\i=.int .i64 (k:Int)/\z5a wl wz.heap.size v (those (fun v=>decide (0<P v)) P k)/\Hid (Below wz.heap.size wz wl)) (fun _ i _=>(6 - intOf i).toNat)
     case atStart=>exact ⟨0,by omega,rfl,z5a.nil _ _,Below.refl _ _⟩
     case round =>
      obtain ⟨k,hk,rfl,hown,HB⟩:=hrel;have hsz:wz.heap.size<=wr.heap.size:=HB.out.size
      by_cases hk6:k<6
      ·have hkk:(k:Int)<6:=by omega
       have hix:=fun w=>j6X P hk6 w;have HC:=hide (z3u (fun v=>decide (0<P v)) P k);have hlen:=z3D (fun v=>decide (0<P v)) P k;generalize P k=pk at *
       by_cases hne:0<pk
       ·go_wp2_with (at_builtin;refine wpList_append_own_at _ rfl _ _ 44 rfl wz.heap.size 68 i0 (.agg #[.int .i64 0,.int .i64 0]) 2 16 underlying44 hi hz0 hz1 hz2 rfl (by decide) _ _ _ rfl (World.ownsRow.alloc hown _) ⟨wr.heap.size,0,none⟩ 1 1 [.int .i64 (k:Int),.int .i64 pk] rfl rfl (q2f _ _ _ _) (by intro u hu;simp at hu;rcases hu with rfl | rfl <;> rfl) (by unfold maxLen;omega) (by omega) (by simp;omega) ?_;intro v' w1 hown' hgrow _ hat)
        have hb:Below wz.heap.size wz w1:=z5a.grow hown HB.out hgrow (Nat.le_refl _) hsz;refine ⟨⟨k+1,by omega,by go_num,?_,hb⟩,by simp[intOf];omega⟩
        rw[HC.out,if_pos (by simpa using hne)]
        exact z5a.append hown' rfl
       ·go_wp2;exact ⟨⟨k+1,by omega,by go_num,by rw[HC.out,if_neg (by simpa using hne)];exact hown,HB.out⟩,by simp[intOf];omega⟩
      ·obtain rfl:k=6:=by omega
       go_wp2;go_ret;exact ⟨_,rfl,by rw[HE.out];exact q3h hown HR3.out.2.size,zbt HR3.out.2 HB.out⟩
theorem j3u(l:List Pw)(ao:Option Addr)(c b off:Nat)(w:World)(hl:PIn w l ao b off) :
  Calls prog 21 #[.slice ao l.length c] w fun e w'=>e=.returned (.int .i64 (q5j l))/\Below w.heap.size w w':=by
 have hlen:=hl.len;have HL:=hide hl;clear hl
 go_enter func21,ntmps21
 go_upto_region 3 with fail
 go_loopw [3,8] (fun s i wl=>∃ k:Nat,k<=l.length/\i=.int .i64 (k:Int)/\s=.int .i64 (q5j (l.take k))/\Hid (Below w.heap.size w wl)) (fun _ i _=>l.length - (intOf i).toNat)
 case atStart=>exact ⟨0,Nat.zero_le _,rfl,rfl,Below.refl _ _⟩
 case round =>
  obtain ⟨k,hk,rfl,rfl,HR⟩:=hrel
  by_cases hlt:k<l.length
  ·have hkI:(k:Int)<(l.length:Int):=by omega
   obtain ⟨c0,c1⟩:=(HL.out.over HR.out).cells k hlt;have HS:=hide (j0E l k hlt);have eao:=HL.out.adr (by omega)
   subst eao;generalize l.getD k (0,0)=x at *;obtain ⟨v,n⟩:=x;dsimp only at c0 c1 HS;generalize q5j (l.take k)=s0 at *;obtain ⟨s1,hs1⟩:∃ s1,q5j (l.take (k+1))=s1:=⟨_,rfl⟩;rw[hs1]at HS;have HS1:=hide hs1;have hw:wrap64 (s0+n)=s1:=by rw[HS.out];unfold wrap64;rfl
   clear HS hs1;go_wp2;exact ⟨⟨k+1,by omega,by go_num,by rw[HS1.out,hw],HR.out.alloc HR.out.size _⟩,by simp[intOf];omega⟩
  ·obtain rfl:k=l.length:=by omega
   have HT:Hid (l.take l.length=l):=List.take_length;go_wp2;go_ret;exact ⟨by rw[HT.out];rfl,HR.out⟩
end Df
end Go.Proofs.YtmopekkhmhhcaaaGreat
