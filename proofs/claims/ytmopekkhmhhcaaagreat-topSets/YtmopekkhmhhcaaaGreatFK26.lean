/- Parts of the proof. -/
import Derived.Test.YtmopekkhmhhcaaaGreatFL
import Derived.Test.YtmopekkhmhhcaaaGreatFK1
import Derived.Test.YtmopekkhmhhcaaaGreatFK2
import Derived.Test.YtmopekkhmhhcaaaGreatFK20
import Derived.Test.YtmopekkhmhhcaaaGreatFK32
import Derived.Test.YtmopekkhmhhcaaaGreatFK33
import Derived.Test.YtmopekkhmhhcaaaGreatFK37
set_option maxRecDepth 100000
set_option maxHeartbeats 16000000
namespace Go.Proofs.YtmopekkhmhhcaaaGreat
open Go.Proofs.Tryz
namespace Pv
open Go.RowKit
theorem z9U{α:Type}{l:List α}{k:Nat}(h:k<l.length):∃ x,l[k]?=some x/\l.drop k=x :: l.drop (k+1):=⟨l[k],List.getElem?_eq_getElem h,List.drop_eq_getElem_cons h⟩
theorem q5l(a b:List (Int×Int))(u v:Value)(P P':Nat->Prop)(w:World)(hu:Rep P w u 2 16 (pwC a))(hv:Rep P' w v 2 16 (pwC b)) :
  Calls prog 120 #[u,v] w fun e w'=>e=.returned (.bool (decide (a=b)))/\Below w.heap.size w w':=by
 obtain⟨A,C,rfl,hs,-,hc,-⟩:=hu.open (z0c _) (by decide)
 obtain⟨A',C',rfl,hs',-,hc',-⟩:=hv.open (z0c _) (by decide)
 have HC:=hide hc;have HC':=hide hc';have hla:a.length<=8796093022202:=by omega
 have hlb:b.length<=8796093022202:=by omega
 obtain⟨G,hG⟩:∃ G,decide (a=b)=G:=⟨_,rfl⟩;have HG:=hide hG;rw[hG];clear hc hc' hu hv hs hs' hG
 go_enter func120,ntmps120
 by_cases hl:a.length=b.length
 ·have hlI:(a.length:Int)=(b.length:Int):=by omega
  have hlb':((a.length:Int) != (b.length:Int))=false:=by simpa using hlI
  go_upto_region 4 with fail
  go_loopw [13] (fun i wl=>∃ (k:Nat),k<=a.length/\i=.int .i64 (k:Int)/\Hid (G=decide (a.drop k=b.drop k)/\Below w.heap.size w wl)) (fun i _=>a.length - (intOf i).toNat)
  case atStart=>exact⟨0,Nat.zero_le _,rfl,by rw[List.drop_zero,List.drop_zero];exact HG.out.symm,Below.refl _ _⟩
  case round =>
   obtain⟨k,hk,rfl,HR⟩:=hrel
   by_cases hlt:k<a.length
   ·have hkI:(k:Int)<(a.length:Int):=by omega
    have hkJ:(k:Int)<(b.length:Int):=by omega
    obtain⟨x,hx,hd⟩:=z9U hlt;obtain⟨y,hy,hd'⟩:=z9U (l:=b) (k:=k) (by omega)
    obtain⟨ba,oa,rfl,-,hbl,hcell⟩:=HC.out (by omega)
    obtain⟨bb,ob,rfl,-,hbl',hcell'⟩:=HC'.out (by omega)
    have gx:a.getD k (0,0)=x:=by simp[List.getD,hx]
    have gy:b.getD k (0,0)=y:=by simp[List.getD,hy]
    obtain⟨p0,p1⟩:=z2h a k hlt;obtain⟨q0,q1⟩:=z2h b k (by omega)
    rw[gx]at p0 p1;rw[gy]at q0 q1;have c0:wr.cell? ⟨ba,oa+k * 2,none⟩=some (.int .i64 x.1):=(HR.out.2.cell (p:=⟨ba,oa+k * 2,none⟩) hbl).trans (hcell _ _ p0);have c1:wr.cell? ⟨ba,oa+k * 2+1,none⟩=some (.int .i64 x.2):=(HR.out.2.cell (p:=⟨ba,oa+k * 2+1,none⟩) hbl).trans (hcell _ _ p1);have d0:wr.cell? ⟨bb,ob+k * 2,none⟩=some (.int .i64 y.1):=(HR.out.2.cell (p:=⟨bb,ob+k * 2,none⟩) hbl').trans (hcell' _ _ q0);have d1:wr.cell? ⟨bb,ob+k * 2+1,none⟩=some (.int .i64 y.2):=(HR.out.2.cell (p:=⟨bb,ob+k * 2+1,none⟩) hbl').trans (hcell' _ _ q1);have HE:Hid (G=decide (x :: a.drop (k+1)=y :: b.drop (k+1))):=by have:=HR.out.1;rw[hd,hd']at this;exact this
    have HB:=hide HR.out.2;clear HR hd hd' hx hy gx gy p0 p1 q0 q1 hcell hcell';obtain⟨x1,x2⟩:=x;obtain⟨y1,y2⟩:=y;dsimp only at c0 c1 d0 d1
    by_cases h12:x1=y1/\x2=y2
    ·obtain⟨rfl,rfl⟩:=h12;have HE2:Hid (G=decide (a.drop (k+1)=b.drop (k+1))):=by rw[Hid,HE.out];simp
     clear HE
     go_upto_region 6 with fail
     go_quiet (fail);simp only[Exit.then];apply_assumption;go_wp2
     first | exact⟨⟨k+1,by omega,by go_num,HE2.out,below_drewN HB.out _⟩,by simp[intOf];omega⟩ | exact⟨⟨k+1,by omega,by go_num,HE2.out,HB.out⟩,by simp[intOf];omega⟩ | ((repeat apply Exists.intro);exact⟨⟨k+1,by omega,by go_num,HE2.out,below_drewN HB.out _⟩,rfl⟩) | ((repeat apply Exists.intro);exact⟨⟨k+1,by omega,by go_num,HE2.out,HB.out⟩,rfl⟩)
    ·have e:G=false:=by
      rw[HE.out];refine decide_eq_false fun h=>h12 ?_;have:=(List.cons.inj h).1;exact⟨congrArg Prod.fst this,congrArg Prod.snd this⟩
     subst e
     have hcs:x1≠y1∨(x1=y1/\x2≠y2):=by
      by_cases h:x1=y1
      ·exact .inr ⟨h,fun h2=>h12 ⟨h,h2⟩⟩
      ·exact .inl h
     clear HE h12 HG
     rcases hcs with h1 | ⟨rfl,h2⟩
     ·go_upto_region 6 with fail
      go_quiet (fail);simp only[Exit.then];apply_assumption;go_wp2;go_ret
      first | exact⟨rfl,below_drewN HB.out _⟩ | exact⟨rfl,HB.out⟩
     ·go_upto_region 6 with fail
      go_quiet (fail);simp only[Exit.then];apply_assumption;go_wp2;go_ret
      first | exact⟨rfl,below_drewN HB.out _⟩ | exact⟨rfl,HB.out⟩
   ·obtain rfl:k=a.length:=by omega
    have e:G=true:=by have:=HR.out.1;rw[List.drop_length,hl,List.drop_length]at this;simpa using this
    subst e;go_wp2;go_ret;exact⟨rfl,HR.out.2⟩
 ·have hlI:¬ ((a.length:Int)=(b.length:Int)):=by omega
  have hlb':((a.length:Int) != (b.length:Int))=true:=by simpa using hlI
  have e:G=false:=by rw[← HG.out];exact decide_eq_false fun h=>hl (by rw[h])
  subst e;go_wp2;go_ret;exact⟨rfl,Below.refl _ _⟩
theorem j6j:(prog.info? 68).map (fun i=>(i.zero,i.size,i.bytes))=some (some (.agg #[.int .i64 0,.int .i64 0]),2,16):=by kernel_rfl
theorem q1P(w:World)(a:Option Addr)(n c:Nat):(binOp .eql 44 (.slice a n c) (.slice none 0 0)).run prog w=.ok (.bool a.isNone) w:=by
 simp[binOp,run_equal_slice_nil w 44 68 a n c underlying44]
theorem q0e(w:World):(w.alloc (.cells #[] 68)).ownsRow w.heap.size 68 2 (.slice (some ⟨w.heap.size,0,none⟩) 0 0) 0 []:=⟨rfl,.inr ⟨w.heap.size,0,#[],rfl,Nat.le_refl _,heap_alloc_new _ _,Nat.le_refl _,Nat.zero_le _,rfl,rfl⟩⟩
theorem z7R{P:Nat->Prop}(w:World)(a:Addr)(c:Nat)(l:List (Int×Int))(h:Rep P w (.slice (some a) l.length c) 2 16 (pwC l)) :
  ∃ A C w',(Builtin.append_ #[44,44] 44 #[.slice (some ⟨w.heap.size,0,none⟩) 0 0,.slice (some a) l.length c]).run prog (w.alloc (.cells #[] 68))=.ok (.slice A l.length C) w'/\w'.ownsRow w.heap.size 68 2 (.slice A l.length C) l.length (pwC l)/\Below w.heap.size w w':=by
 obtain⟨i0,hi,hz0,hz1,hz2⟩:=info_parts j6j;obtain⟨A0,C0,e0,hl,-,-,hcl⟩:=(h.over (znw w (.cells #[] 68))).open (z0c l) (by decide)
 cases e0
 obtain⟨v',w',hr,ho,hg,-,hat⟩:=run_append_own_at (P:=prog) (w.alloc (.cells #[] 68)) w.heap.size 44 44 68 i0 _ 2 16 underlying44 hi hz0 hz1 hz2 rfl (by omega) _ 0 [] (q0e w) a l.length c (pwC l) (z0c l)
  (fun j u hj=>hcl a rfl j u hj) (z6t l) (by simp only[maxLen];omega) (by omega) (by simp)
 rw[Nat.zero_add,List.nil_append]at ho
 have hv:∃ A C,v'=.slice A l.length C:=by
  rcases ho.2 with⟨rfl,h0⟩ | ⟨g,cap,cur,rfl,_⟩
  ·rw[h0];exact⟨none,0,rfl⟩
  ·exact⟨_,_,rfl⟩
 obtain⟨A,C,rfl⟩:=hv;refine⟨A,C,w',hr,ho,?_⟩;have hb:=(Below.refl w.heap.size w).alloc (Nat.le_refl _) (.cells #[] 68);exact⟨hg.os.trans hb.os,hg.tape.trans hb.tape,hg.output.trans hb.output,Nat.le_trans hb.size hg.size,fun k hk=>(hg.block k (by simp;omega) (by simp[Value.ownBlock];omega)).trans (hb.block k hk)⟩
theorem z6G{P:Nat->Prop}{ops:Array Oper}{rest:List Oper}{o:Oper}{a:Act}{w:World}{Q:Exit->Act->World->Prop}(hg:o.guard=none)(hty:o.type=44)(p q:Operand)
  (hop:o.op=Op.call { callee:=Callee.builtin Builtin.append,args:=#[p,q],argTypes:=#[44,44] }) (ad:Addr) (c:Nat) (l:List (Int×Int)) (hs:a.eval p=.slice (some ⟨w.heap.size,0,none⟩) 0 0) (hx:a.eval q=.slice (some ad) l.length c) (hW:Rep P w (.slice (some ad) l.length c) 2 16 (pwC l))
  (hK:∀ A C w',w'.ownsRow w.heap.size 68 2 (.slice A l.length C) l.length (pwC l)/\Below w.heap.size w w'->wpList prog ops Q rest (a.put o.dst (.slice A l.length C)) w'):wpList prog ops Q (o :: rest) a (w.alloc (.cells #[] 68)):=by
 refine wpList_plain hg fun _ hK'=>?_;unfold Oper.wp;obtain⟨A,C,w',hr,h1⟩:=z7R w ad c l hW
 simp[execOp,hop,resolve,invoke,builtin,hs,hx,hty,hr,Result.andThen]
 exact hK' _ _ (hK _ _ _ h1)
theorem z6F(l:List (Int×Int))(v:Value)(P:Nat->Prop)(w:World)(h:Rep P w v 2 16 (pwC l)) :
  Calls prog 41 #[v] w fun e w'=>∃ u,e=.returned u/\Rep (fun b=>w.heap.size<=b) w' u 2 16 (pwC l)/\Below w.heap.size w w':=by
 obtain⟨A,C,rfl,hl,h0,-,-⟩:=id (h.open (z0c l) (by decide))
 cases A with
 | none =>
  obtain⟨hn,rfl⟩:=h0 rfl;obtain rfl:l=[]:=List.length_eq_zero_iff.1 hn;have hq:=fun w=>q1P w none 0 0;clear h h0
  go_enter func41,ntmps41
  go_wp2;go_ret;exact⟨_,rfl,Rep.nil _ _ _ _,Below.refl _ _⟩
 | some a =>
  have hq:=fun w=>q1P w (some a) l.length C;have HH:=hide h;clear h h0
  go_enter func41,ntmps41
  go_upto_region 3 with fail
  apply wp_region_lit
  iterate 6 go_step
  refine z6G rfl rfl _ _ rfl a C l rfl rfl HH.out ?_;rintro A' C' w'⟨h1,h2⟩;have H1:=hide h1;have H2:=hide h2;clear h1 h2;go_wp2;go_ret;exact⟨_,rfl,Rep.own H1.out (by omega),H2.out⟩
end Pv
namespace Cd
open Go.RowKit
def Bytes(l:List Int):Prop:=∀ c∈l,0<=c/\c<256
theorem z4o{m:Nat}{st:List Int×Bool}(h:Bytes st.1):Bytes (tk m st).2.1:=by
 unfold tk
 split
 ·intro c hc;simp at hc
 ·intro c hc;exact h c (List.mem_of_mem_drop hc)
theorem j4d{st:List Int×Bool}(h:Bytes st.1):0<=(tk 1 st).1/\(tk 1 st).1<256:=by
 unfold tk
 split
 ·simp
 ·rename_i hl
  match hs:st.1,hl with
  | c :: t,_ =>
   have:=h c (by rw[hs];exact List.mem_cons_self ..)
   simp[z4x];omega
theorem q8x:∀ (m:Nat) (st:List Int×Bool),Bytes st.1->Bytes (tkP m st).2.1:=by
 intro m
 induction m with
 | zero=>intro st h;exact h
 | succ m ih=>intro st h;exact ih _ (z4o (z4o h))
def p1(l:List Int):Int×(List Int×Bool):=tk 1 (l,false)
def p2(l:List Int):Int×(List Int×Bool):=tk 6 (p1 l).2
def p3(l:List Int):Int×(List Int×Bool):=tk 1 (p2 l).2
def p4(l:List Int):Int×(List Int×Bool):=tk 7 (p3 l).2
def p5(l:List Int):Int×(List Int×Bool):=tk 1 (p4 l).2
def p6(l:List Int):List (Int×Int)×(List Int×Bool):=tkP (p5 l).1.toNat (p5 l).2
def p7(l:List Int):Int×(List Int×Bool):=tk 1 (p6 l).2
def p8(l:List Int):List Int×(List Int×Bool):=tkD (p7 l).1.toNat (p7 l).2
def parse(l:List Int):(Int×Int×Int×Int×List (Int×Int)×List Int)×(List Int×Bool):=(((p1 l).1,(p2 l).1,(p3 l).1,(p4 l).1,(p6 l).1,(p8 l).1),(p8 l).2)
theorem z7b(l:List Int)(h:Bytes l):0<=(p5 l).1/\(p5 l).1<256/\0<=(p7 l).1/\(p7 l).1<256:=by
 have h1:Bytes (p1 l).2.1:=by unfold p1;exact z4o h
 have h2:Bytes (p2 l).2.1:=by unfold p2;exact z4o h1
 have h3:Bytes (p3 l).2.1:=by unfold p3;exact z4o h2
 have h4:Bytes (p4 l).2.1:=by unfold p4;exact z4o h3
 have h5:Bytes (p5 l).2.1:=by unfold p5;exact z4o h4
 have b5:0<=(p5 l).1/\(p5 l).1<256:=by unfold p5;exact j4d h4
 have h6:Bytes (p6 l).2.1:=by unfold p6;exact q8x _ _ h5
 have b6:0<=(p7 l).1/\(p7 l).1<256:=by unfold p7;exact j4d h6
 exact⟨b5.1,b5.2,b6.1,b6.2⟩
def z6l(l:List Int):Int:=if (parse l).2=([],false) then z0m (parse l).1.1 (parse l).1.2.1 (parse l).1.2.2.1 (parse l).1.2.2.2.1 (parse l).1.2.2.2.2.1 (parse l).1.2.2.2.2.2 else 1
def z2q(l:List Int):Int×Int×Int×Int×List (Int×Int)×List Int:=if z6l l=0 then (parse l).1 else (0,0,0,0,[],[])
theorem flat_get(l:List (Int×Int)):∀ i,i<l.length->(l.flatMap fun p=>[Value.int .i64 p.1,Value.int .i64 p.2])[i * 2]?=some (.int .i64 (l.getD i (0,0)).1)/\(l.flatMap fun p=>[Value.int .i64 p.1,Value.int .i64 p.2])[i * 2+1]?=some (.int .i64 (l.getD i (0,0)).2):=by
 induction l with
 | nil=>intro i hi;simp at hi
 | cons a t ih =>
  intro i hi
  match i with
  | 0=>simp
  | i+1 =>
   have:=ih i (by simpa using hi)
   rw[List.flatMap_cons,show (i+1) * 2=i * 2+1+1 by omega]
   simpa using this
theorem q1X.lies{w:World}{B:Nat}{u:Value}{l:List (Int×Int)}(h:q1X w B u l):∃ a c g,u=.slice a l.length c/\l.length<=maxLen/\(0<l.length->a=some ⟨g,0,none⟩)/\z5z w g 0 l/\(0<l.length->B<=g)/\((a=none->c=0)/\l.length<=c):=by
 rcases h.2 with⟨rfl,h0⟩ | ⟨g,cap,cur,rfl,hb,hh,hn,hm,hs,ht⟩
 ·exact⟨none,0,0,by rw[h0],by omega,by omega,fun i hi=>by omega,by omega,fun _=>rfl,by omega⟩
 ·refine⟨_,cap,g,rfl,by omega,fun _=>rfl,fun i hi=>?_,fun _=>hb,fun h=>(by cases h),hn⟩
  have h':w.ownsRow B 68 2 (.slice (some ⟨g,0,none⟩) l.length cap) l.length (l.flatMap fun p=>[Value.int .i64 p.1,Value.int .i64 p.2]):=h;rw[Nat.zero_add,h'.cellAt _ (by omega),h'.cellAt _ (by omega)]
  exact flat_get l i hi
theorem Row1.lies{w:World}{B:Nat}{u:Value}{l:List Int}(h:Row1 w B u l):∃ a c g,u=.slice a l.length c/\l.length<=maxLen/\(0<l.length->a=some ⟨g,0,none⟩)/\z1b w g 0 l/\(0<l.length->B<=g)/\((a=none->c=0)/\l.length<=c):=by
 rcases h.2 with⟨rfl,h0⟩ | ⟨g,cap,cur,rfl,hb,hh,hn,hm,hs,ht⟩
 ·exact⟨none,0,0,by rw[h0],by omega,by omega,fun i hi=>by omega,by omega,fun _=>rfl,by omega⟩
 ·refine⟨_,cap,g,rfl,by omega,fun _=>rfl,fun i hi=>?_,fun _=>hb,fun h=>(by cases h),hn⟩
  have h':w.ownsRow B 3 1 (.slice (some ⟨g,0,none⟩) l.length cap) l.length (l.map (Value.int .i64)):=h;rw[Nat.zero_add,h'.cellAt _ (by omega)]
  simp[List.getD,hi]
theorem q0R(b:Nat)(l:List Int)(w:World)(hT:TS w b (l,false))(hl:Bytes l) :
  Calls prog 33 #[.pointer (some ⟨b,0,none⟩)] w fun e w'=>∃ u d,e=.returned (.agg #[.int .i64 (parse l).1.1,.int .i64 (parse l).1.2.1,.int .i64 (parse l).1.2.2.1,.int .i64 (parse l).1.2.2.2.1,u,d])/\q1X w' (w.heap.size+2) u (parse l).1.2.2.2.2.1/\Row1 w' (w.heap.size+2) d (parse l).1.2.2.2.2.2/\TS w' b (parse l).2/\w.grownBy w' (some b):=by
 obtain⟨a1,a2,a3,a4⟩:=z7b l hl
 rcases e1:p1 l with⟨k,s1⟩
 rcases e2:p2 l with⟨i,s2⟩
 rcases e3:p3 l with⟨v,s3⟩
 rcases e4:p4 l with⟨n,s4⟩
 rcases e5:p5 l with⟨c,s5⟩
 rcases e6:p6 l with⟨S,s6⟩
 rcases e7:p7 l with⟨d,s7⟩
 rcases e8:p8 l with⟨D,s8⟩
 have ep:parse l=((k,i,v,n,S,D),s8):=by rw[parse,e1,e2,e3,e4,e6,e8]
 rw[ep];rw[e5]at a1 a2;rw[e7]at a3 a4;rw[p1]at e1;rw[p2,p1,e1]at e2;rw[p3,p2,p1,e1,e2]at e3;rw[p4,p3,p2,p1,e1,e2,e3]at e4;rw[p5,p4,p3,p2,p1,e1,e2,e3,e4]at e5;rw[p6,p5,p4,p3,p2,p1,e1,e2,e3,e4,e5]at e6;rw[p7,p6,p5,p4,p3,p2,p1,e1,e2,e3,e4,e5,e6]at e7;rw[p8,p7,p6,p5,p4,p3,p2,p1,e1,e2,e3,e4,e5,e6,e7]at e8;dsimp only at a1 a2 a3 a4 e6 e8;refine q6C b (l,false) s1 s2 s3 s4 s5 s6 s7 s8 k i v n c.toNat d.toNat S D w hT e1 e2 e3 e4 ?_ e6 ?_ e8 (by omega) (by omega)
 ·rw[Int.toNat_of_nonneg a1];exact e5
 ·rw[Int.toNat_of_nonneg a3];exact e7
theorem z2R.six{w:World}{b:Nat}{k i v n s d:Value}(h:z2R w b k i v n s d):∀ o,o<6->∃ u,w.cell? ⟨b,o,none⟩=some u:=fun o ho=>by
 obtain⟨d0,d1,d2,d3,d4,d5,_⟩:=h.cells
 match o,ho with
 | 0,_=>exact⟨_,d0⟩
 | 1,_=>exact⟨_,d1⟩
 | 2,_=>exact⟨_,d2⟩
 | 3,_=>exact⟨_,d3⟩
 | 4,_=>exact⟨_,d4⟩
 | 5,_=>exact⟨_,d5⟩
theorem j7j{w w1:World}{k i v n s d:Value}(hR:z2R w1 w.heap.size k i v n s d)(hB:Below w.heap.size w w1)(v0 v1 v2 v3 v4 v5:Value)(o:Obj) :
  ((z3M w1 w.heap.size v0 v1 v2 v3 v4 v5).alloc o).cell? ⟨w.heap.size,0,none⟩=some v0/\((z3M w1 w.heap.size v0 v1 v2 v3 v4 v5).alloc o).cell? ⟨w.heap.size,1,none⟩=some v1/\((z3M w1 w.heap.size v0 v1 v2 v3 v4 v5).alloc o).cell? ⟨w.heap.size,2,none⟩=some v2 /\
  ((z3M w1 w.heap.size v0 v1 v2 v3 v4 v5).alloc o).cell? ⟨w.heap.size,3,none⟩=some v3/\((z3M w1 w.heap.size v0 v1 v2 v3 v4 v5).alloc o).cell? ⟨w.heap.size,4,none⟩=some v4/\((z3M w1 w.heap.size v0 v1 v2 v3 v4 v5).alloc o).cell? ⟨w.heap.size,5,none⟩=some v5 /\
  Below w.heap.size w ((z3M w1 w.heap.size v0 v1 v2 v3 v4 v5).alloc o):=by
 obtain⟨e0,e1,e2,e3,e4,e5⟩:=z4V (w:=w1) (b:=w.heap.size) v0 v1 v2 v3 v4 v5 hR.six;have hb:=z0v (z3M w1 w.heap.size v0 v1 v2 v3 v4 v5) o;have hlt:w.heap.size<(z3M w1 w.heap.size v0 v1 v2 v3 v4 v5).heap.size:=World.block_lt_of_cell? _ _ e0
 exact⟨(hb.cell (p:=⟨w.heap.size,0,none⟩) hlt).trans e0,(hb.cell (p:=⟨w.heap.size,1,none⟩) hlt).trans e1,(hb.cell (p:=⟨w.heap.size,2,none⟩) hlt).trans e2,(hb.cell (p:=⟨w.heap.size,3,none⟩) hlt).trans e3,(hb.cell (p:=⟨w.heap.size,4,none⟩) hlt).trans e4,(hb.cell (p:=⟨w.heap.size,5,none⟩) hlt).trans e5,
  z2d (z3S v0 v1 v2 v3 v4 v5 hB (Nat.le_refl _)) hb⟩
theorem q3v(w:World):q6U w [] [] none none 0 0 0 0:=⟨by simp,by simp,by simp,by simp,fun i hi=>absurd hi (by simp),fun i hi=>absurd hi (by simp)⟩
theorem q6U.z3M{w:World}{S:List (Int×Int)}{D:List Int}{sa da:Option Addr}{sb so db dO:Nat}(L:q6U w S D sa da sb so db dO)(c:Nat)(hc:(0<S.length->sb≠c)/\(0<D.length->db≠c))(v0 v1 v2 v3 v4 v5:Value):q6U (z3M w c v0 v1 v2 v3 v4 v5) S D sa da sb so db dO:=by
 refine⟨L.hls,L.hld,L.hsa,L.hda,fun i hi=>?_,fun i hi=>?_⟩
 ·have h:=L.PS i hi;exact⟨(cell_of_heap (z6R v0 v1 v2 v3 v4 v5 (hc.1 (by omega))) _).trans h.1,(cell_of_heap (z6R v0 v1 v2 v3 v4 v5 (hc.1 (by omega))) _).trans h.2⟩
 ·exact (cell_of_heap (z6R v0 v1 v2 v3 v4 v5 (hc.2 (by omega))) _).trans (L.PD i hi)
def Rm(B:Nat)(a:Option Addr)(n c g:Nat):Prop:=(a=none->c=0)/\n<=c/\(0<n->B<=g)
theorem j3U(B:Nat):Rm B none ([]:List (Int×Int)).length 0 0/\Rm B none ([]:List Int).length 0 0:=⟨⟨fun _=>rfl,by simp,by simp⟩,⟨fun _=>rfl,by simp,by simp⟩⟩
theorem z6H(s:ByteArray)(w:World)(hs:s.size<=maxLen) :
  Calls prog 16 #[.string s] w fun e w'=>∃ sa da cs cd sb so db dO,
   e=.returned (.tuple #[.agg #[.int .i64 (z2q (bs s)).1,.int .i64 (z2q (bs s)).2.1,.int .i64 (z2q (bs s)).2.2.1,.int .i64 (z2q (bs s)).2.2.2.1,.slice sa (z2q (bs s)).2.2.2.2.1.length cs,.slice da (z2q (bs s)).2.2.2.2.2.length cd],.int .i64 (z6l (bs s))]) /\
   q6U w' (z2q (bs s)).2.2.2.2.1 (z2q (bs s)).2.2.2.2.2 sa da sb so db dO/\(Rm w.heap.size sa (z2q (bs s)).2.2.2.2.1.length cs sb/\Rm w.heap.size da (z2q (bs s)).2.2.2.2.2.length cd db)/\Below w.heap.size w w':=by
 have HE:Hid (z6l (bs s)=if (parse (bs s)).2=([],false) then z0m (parse (bs s)).1.1 (parse (bs s)).1.2.1 (parse (bs s)).1.2.2.1 (parse (bs s)).1.2.2.2.1 (parse (bs s)).1.2.2.2.2.1 (parse (bs s)).1.2.2.2.2.2 else 1):=rfl;have HP:Hid (z2q (bs s)=if z6l (bs s)=0 then (parse (bs s)).1 else (0,0,0,0,[],[])):=rfl;generalize z6l (bs s)=E at *;generalize z2q (bs s)=R at *;have hpk:=fun (w:World) (b:Nat) (h:TS w b (bs s,false))=>q0R b (bs s) w h (z9P s);have HPK:Hid _:=hpk;clear hpk;generalize parse (bs s)=pr at *;obtain⟨⟨k,i,v,n,S,D⟩,st⟩:=pr;dsimp only at HE HP HPK
 go_enter func16,ntmps16
 go_wp2_with fail
 have hTS:TS ((w.alloc (Obj.cells #[Value.int IntKind.i64 0,Value.int IntKind.i64 0,Value.int IntKind.i64 0,Value.int IntKind.i64 0,Value.slice none 0 0,Value.slice none 0 0] 70)).alloc (Obj.cells #[Value.string s,Value.bool false] 104)) (w.heap.size+1) (bs s,false):=by
  refine⟨s,?_,rfl,hs⟩;unfold TAt;have e:w.heap.size+1=(w.alloc (Obj.cells #[Value.int IntKind.i64 0,Value.int IntKind.i64 0,Value.int IntKind.i64 0,Value.int IntKind.i64 0,Value.slice none 0 0,Value.slice none 0 0] 70)).heap.size:=by simp
  rw[e];exact heap_alloc_new _ _
 refine (HPK.out _ _ hTS).mono ?_;rintro e w1⟨u,d,rfl,hr2,hr1,hT1,hg1⟩;have hz1:w.heap.size+2<=w1.heap.size:=by have:=hg1.size;simpa using this
 have hB1:Below w.heap.size w w1:=by
  have hb0:Below w.heap.size w ((w.alloc (Obj.cells #[Value.int IntKind.i64 0,Value.int IntKind.i64 0,Value.int IntKind.i64 0,Value.int IntKind.i64 0,Value.slice none 0 0,Value.slice none 0 0] 70)).alloc (Obj.cells #[Value.string s,Value.bool false] 104)):=(z0v w _).alloc (by simp) _
  exact hb0.grown hg1 (by simp;omega) (fun k hk=>by cases hk;omega)
 have hR1:z2R w1 w.heap.size (.int .i64 0) (.int .i64 0) (.int .i64 0) (.int .i64 0) (.slice none 0 0) (.slice none 0 0):=by
  refine z2R.keep (w:=(w.alloc (Obj.cells #[Value.int IntKind.i64 0,Value.int IntKind.i64 0,Value.int IntKind.i64 0,Value.int IntKind.i64 0,Value.slice none 0 0,Value.slice none 0 0] 70)).alloc (Obj.cells #[Value.string s,Value.bool false] 104)) ?_ hg1 (by simp)
  exact (Below.heap_alloc _ _ _ (by simp)).trans (heap_alloc_new _ _)
 obtain⟨ua,uc,ug,rfl,l1,l2,l3,l4,l5⟩:=hr2.lies;obtain⟨xa,xc,xg,rfl,m1,m2,m3,m4,m5⟩:=hr1.lies;have HRM:Hid (Rm w.heap.size ua S.length uc ug/\Rm w.heap.size xa D.length xc xg):=⟨⟨l5.1,l5.2,fun h=>by have:=l4 h;simp at this;omega⟩,⟨m5.1,m5.2,fun h=>by have:=m4 h;simp at this;omega⟩⟩
 clear l5 m5;have HNE:Hid ((0<S.length->ug≠w.heap.size)/\(0<D.length->xg≠w.heap.size)):=⟨fun h e=>by have:=l4 h;simp at this;omega,fun h e=>by have:=m4 h;simp at this;omega⟩
 have L1:q6U w1 S D ua xa ug 0 xg 0:=⟨l1,m1,l2,m2,l3,m3⟩;obtain⟨r,hTA,hbr,hrs⟩:=hT1;clear hr2 hr1 l1 l2 l3 l4 m1 m2 m3 m4 hg1 HPK hTS;obtain⟨rest,sh⟩:=st;dsimp only at hTA hbr;subst hbr;obtain⟨t0,t1,tf0,tf1⟩:=hTA.cells;have hz1a:w.heap.size<w1.heap.size:=by omega
 have hz1b:w.heap.size+1<w1.heap.size:=by omega
 obtain⟨d0,d1,d2,d3,d4,d5,df⟩:=hR1.cells;unfold maxLen at hrs
 by_cases hst:(bs r,sh)=(([]:List Int),false)
 ·have HE1:Hid (E=z0m k i v n S D):=by show _=_;rw[HE.out,if_pos hst]
  obtain⟨hcl,rfl⟩:=Prod.mk.inj hst;have hr0:r.size=0:=by rw[← z2F,hcl];rfl
  have hn:((r.size:Int) != 0)=false:=by rw[hr0];rfl
  clear HE hst hcl hr0;have LB:=L1.later (z0v w1 (Obj.cells #[Value.int IntKind.i64 k,Value.int IntKind.i64 i,Value.int IntKind.i64 v,Value.int IntKind.i64 n,Value.slice ua S.length uc,Value.slice xa D.length xc] 70));have hgood:=z0o k i v n S D ua xa uc xc ug 0 xg 0 _ LB.hls LB.hld LB.hsa LB.hda LB.PS LB.PD;have PKB:=q3s w1 k i v n (.slice ua S.length uc) (.slice xa D.length xc)
  go_wp2_with fail
  refine hgood.mono ?_;rintro e w2⟨rfl,hb2⟩;have PK2:=PKB.later hb2 (by simp)
  have hbs:=z2S hb2;have L2:=L1.later hbs;have hB2:=z2d hB1 hbs;have hR2:z2R w2 w.heap.size (.int .i64 0) (.int .i64 0) (.int .i64 0) (.int .i64 0) (.slice none 0 0) (.slice none 0 0):=hR1.keep (r:=none) ⟨hbs.os,hbs.tape,hbs.output,hbs.size,fun k hk _=>hbs.block k hk⟩ (by simp)
  clear hgood hb2 PKB hbs L1 hB1 hR1 LB t0 t1 tf0 tf1 d0 d1 d2 d3 d4 d5 df hTA;obtain⟨d0,d1,d2,d3,d4,d5,df⟩:=hR2.cells;obtain⟨c0,c1,c2,c3,c4,c5⟩:=id PK2
  by_cases hG:z0m k i v n S D=0
  ·have HP1:Hid (R=(k,i,v,n,S,D)):=by show _=_;rw[HP.out,HE1.out,if_pos hG]
   have HE2:Hid (E=0):=HE1.out.trans hG;rw[hG]at *;have HC:Hid _:=z4V (w:=w2) (b:=w.heap.size) (.int .i64 k) (.int .i64 i) (.int .i64 v) (.int .i64 n) (.slice ua S.length uc) (.slice xa D.length xc) hR2.six;have HBB:Hid _:=z3S (b:=w.heap.size) (.int .i64 k) (.int .i64 i) (.int .i64 v) (.int .i64 n) (.slice ua S.length uc) (.slice xa D.length xc) hB2 (Nat.le_refl _);have HLL:Hid _:=L2.z3M w.heap.size HNE.out (.int .i64 k) (.int .i64 i) (.int .i64 v) (.int .i64 n) (.slice ua S.length uc) (.slice xa D.length xc);clear HP HE1 hB2 hR2 L2 HNE PK2;go_wp2
   show bodyPost prog f16 _ Exit.ret _ (z3M w2 w.heap.size (.int .i64 k) (.int .i64 i) (.int .i64 v) (.int .i64 n) (.slice ua S.length uc) (.slice xa D.length xc))
   obtain⟨e0,e1,e2,e3,e4,e5⟩:=HC.out;have hBB:=HBB.out;have hLL:=HLL.out;clear HC HBB HLL;generalize z3M w2 w.heap.size (.int .i64 k) (.int .i64 i) (.int .i64 v) (.int .i64 n) (.slice ua S.length uc) (.slice xa D.length xc)=w9 at *
   exact bodyPost_ret (v:=.tuple #[.agg #[.int .i64 k,.int .i64 i,.int .i64 v,.int .i64 n,.slice ua S.length uc,.slice xa D.length xc],.int .i64 0]) (by simp[results,results16,go_sem,e0,e1,e2,e3,e4,e5]) rfl
    ⟨ua,xa,uc,xc,ug,0,xg,0,by rw[HE2.out,HP1.out],by rw[HP1.out];exact hLL,by rw[HP1.out];exact HRM.out,hBB⟩
  ·have HP1:Hid (R=(0,0,0,0,[],[])):=by show _=_;rw[HP.out,HE1.out,if_neg hG]
   have hGb:(z0m k i v n S D != 0)=true:=by simpa using hG
   have HC:Hid _:=z4V (w:=w2) (b:=w.heap.size) (.int .i64 0) (.int .i64 0) (.int .i64 0) (.int .i64 0) (.slice none 0 0) (.slice none 0 0) hR2.six;have HBB:Hid _:=z3S (b:=w.heap.size) (.int .i64 0) (.int .i64 0) (.int .i64 0) (.int .i64 0) (.slice none 0 0) (.slice none 0 0) hB2 (Nat.le_refl _);clear HP hB2 hR2 L2 HNE PK2 hG;generalize z0m k i v n S D=G at *;go_wp2
   show bodyPost prog f16 _ Exit.ret _ (z3M w2 w.heap.size (.int .i64 0) (.int .i64 0) (.int .i64 0) (.int .i64 0) (.slice none 0 0) (.slice none 0 0))
   obtain⟨e0,e1,e2,e3,e4,e5⟩:=HC.out;have hBB:=HBB.out;clear HC HBB;generalize z3M w2 w.heap.size (.int .i64 0) (.int .i64 0) (.int .i64 0) (.int .i64 0) (.slice none 0 0) (.slice none 0 0)=w9 at *
   exact bodyPost_ret (v:=.tuple #[.agg #[.int .i64 0,.int .i64 0,.int .i64 0,.int .i64 0,.slice none 0 0,.slice none 0 0],.int .i64 G]) (by simp[results,results16,go_sem,e0,e1,e2,e3,e4,e5]) rfl
    ⟨none,none,0,0,0,0,0,0,by rw[HE1.out,HP1.out];rfl,by rw[HP1.out];exact q3v _,by rw[HP1.out];exact j3U _,hBB⟩
 ·have HE1:Hid (E=1):=by show _=_;rw[HE.out,if_neg hst]
  have HP1:Hid (R=(0,0,0,0,[],[])):=by show _=_;rw[HP.out,HE1.out,if_neg (by decide)]
  have HEND:Hid _:=j7j hR1 hB1 (.int .i64 0) (.int .i64 0) (.int .i64 0) (.int .i64 0) (.slice none 0 0) (.slice none 0 0) (Obj.cells #[Value.int IntKind.i64 k,Value.int IntKind.i64 i,Value.int IntKind.i64 v,Value.int IntKind.i64 n,Value.slice ua S.length uc,Value.slice xa D.length xc] 70)
  have hn:sh=true∨(sh=false/\((r.size:Int) != 0)=true):=by
   cases sh with
   | true=>exact .inl rfl
   | false =>
    refine .inr ⟨rfl,?_⟩;have:r.size≠0:=fun h=>hst (by rw[List.eq_nil_of_length_eq_zero (show (bs r).length=0 by rw[z2F];exact h)])
    rw[bne_iff_ne];omega
  clear HE HP hst hR1 hB1 L1 HNE hTA
  rcases hn with rfl | ⟨rfl,hn⟩
  all_goals
   go_wp2
   show bodyPost prog f16 _ Exit.ret _ ((z3M w1 w.heap.size (.int .i64 0) (.int .i64 0) (.int .i64 0) (.int .i64 0) (.slice none 0 0) (.slice none 0 0)).alloc (Obj.cells #[Value.int IntKind.i64 k,Value.int IntKind.i64 i,Value.int IntKind.i64 v,Value.int IntKind.i64 n,Value.slice ua S.length uc,Value.slice xa D.length xc] 70))
   obtain⟨e0,e1,e2,e3,e4,e5,hB⟩:=HEND.out;generalize (z3M w1 w.heap.size (.int .i64 0) (.int .i64 0) (.int .i64 0) (.int .i64 0) (.slice none 0 0) (.slice none 0 0)).alloc (Obj.cells #[Value.int IntKind.i64 k,Value.int IntKind.i64 i,Value.int IntKind.i64 v,Value.int IntKind.i64 n,Value.slice ua S.length uc,Value.slice xa D.length xc] 70)=w9 at *
   exact bodyPost_ret (v:=.tuple #[.agg #[.int .i64 0,.int .i64 0,.int .i64 0,.int .i64 0,.slice none 0 0,.slice none 0 0],.int .i64 1]) (by simp[results,results16,go_sem,e0,e1,e2,e3,e4,e5]) rfl
    ⟨none,none,0,0,0,0,0,0,by rw[HE1.out,HP1.out];rfl,by rw[HP1.out];exact q3v _,by rw[HP1.out];exact j3U _,hB⟩
theorem q4Z:∀ (t:List Int) (x:Int),z4x x t=x * 2 ^ (8 * t.length)+z4x 0 t:=by
 intro t
 induction t with
 | nil=>intro x;simp[z4x]
 | cons c t ih =>
  intro x;have h1:z4x x (c :: t)=z4x (x * 256+c) t:=rfl;have h2:z4x 0 (c :: t)=z4x (0 * 256+c) t:=rfl;rw[h1,h2,ih (x * 256+c),ih (0 * 256+c),List.length_cons,z8f,Int.add_mul,Int.zero_mul,Int.zero_add,Int.mul_assoc,Int.mul_comm 256];omega
theorem z5R(a:List Int)(h:Bytes a):∀ acc:Int,be (z4x acc a) a.length=a:=by
 induction a with
 | nil=>intro _;rfl
 | cons c t ih =>
  intro acc;have ht:Bytes t:=fun x hx=>h x (List.mem_cons_of_mem _ hx);have hc:=h c (List.mem_cons_self ..);have h1:z4x acc (c :: t)=z4x (acc * 256+c) t:=rfl;have hb:=z9d t 0 0 ht (by omega) (by omega)
  rw[Nat.zero_add]at hb;rw[h1,List.length_cons,be,ih ht (acc * 256+c),q4Z t (acc * 256+c)]
  congr 1
  rw[Int.mul_comm,Int.add_comm,Int.add_mul_ediv_left _ _ (by have:=q4a t.length;omega),Int.ediv_eq_zero_of_lt hb.1 hb.2]
  omega
theorem z3J{m:Nat}{st:List Int×Bool}(h:(tk m st).2.2=false):st.2=false/\m<=st.1.length:=by
 unfold tk at h
 split at h
 ·cases h
 ·exact⟨h,by omega⟩
theorem z4i{m:Nat}{l:List Int}{x:Int}{l':List Int}(h:tk m (l,false)=(x,(l',false))):∃ a,a.length=m/\l=a ++ l'/\x=z4x 0 a:=by
 have hf:=z3J (m:=m) (st:=(l,false)) (by rw[h])
 rw[tk,if_neg (by have:=hf.2;dsimp only at this ⊢;omega)]at h
 simp only[Prod.mk.injEq]at h;obtain⟨rfl,rfl,_⟩:=h;exact⟨l.take m,by rw[List.length_take];have:=hf.2;dsimp only at this;omega,(List.take_append_drop m l).symm,rfl⟩
theorem q3O:∀ (m:Nat) {st:List Int×Bool},(tkP m st).2.2=false->st.2=false:=by
 intro m
 induction m with
 | zero=>intro st h;exact h
 | succ m ih=>intro st h;exact (z3J (z3J (ih h)).1).1
theorem q4H:∀ (m:Nat) {st:List Int×Bool},(tkD m st).2.2=false->st.2=false:=by
 intro m
 induction m with
 | zero=>intro st h;exact h
 | succ m ih=>intro st h;exact (z3J (ih h)).1
theorem j1t:∀ (m:Nat) {l l':List Int} {S:List (Int×Int)},Bytes l->tkP m (l,false)=(S,(l',false))->S.length=m/\l=S.flatMap z5h ++ l':=by
 intro m
 induction m with
 | zero=>intro l l' S _ h;simp only[tkP,Prod.mk.injEq]at h;obtain⟨rfl,rfl,_⟩:=h;exact⟨rfl,rfl⟩
 | succ m ih =>
  intro l l' S hb h
  rcases e1:tk 1 (l,false) with⟨y,l1,f1⟩
  rcases e2:tk 7 (l1,f1) with⟨z,l2,f2⟩
  rcases e3:tkP m (l2,f2) with⟨T,l3,f3⟩
  rw[tkP,e1]at h;dsimp only at h;rw[e2]at h;dsimp only at h;rw[e3]at h;simp only[Prod.mk.injEq]at h;obtain⟨rfl,rfl,rfl⟩:=h;have g2:=q3O m (st:=(l2,f2)) (by rw[e3])
  dsimp only at g2;subst g2;have g1:=(z3J (m:=7) (st:=(l1,f1)) (by rw[e2])).1
  dsimp only at g1;subst g1;obtain⟨a,ha,rfl,rfl⟩:=z4i e1;obtain⟨c,hc,rfl,rfl⟩:=z4i e2;have ba:Bytes a:=fun x hx=>hb x (by simp[hx])
  have bc:Bytes c:=fun x hx=>hb x (by simp[hx])
  have b2:Bytes l2:=fun x hx=>hb x (by simp[hx])
  obtain⟨r1,r2⟩:=ih b2 e3;refine⟨by simp[r1],?_⟩
  have q1:=z5R a ba 0;have q2:=z5R c bc 0;rw[ha]at q1;rw[hc]at q2;rw[List.flatMap_cons,z5h];dsimp only;rw[q1,q2,List.append_assoc,List.append_assoc,← r2]
theorem j3w:∀ (m:Nat) {l l':List Int} {D:List Int},Bytes l->tkD m (l,false)=(D,(l',false))->D.length=m/\l=D.flatMap (be · 1) ++ l':=by
 intro m
 induction m with
 | zero=>intro l l' S _ h;simp only[tkD,Prod.mk.injEq]at h;obtain⟨rfl,rfl,_⟩:=h;exact⟨rfl,rfl⟩
 | succ m ih =>
  intro l l' S hb h
  rcases e1:tk 1 (l,false) with⟨y,l1,f1⟩
  rcases e3:tkD m (l1,f1) with⟨T,l3,f3⟩
  rw[tkD,e1]at h;dsimp only at h;rw[e3]at h;simp only[Prod.mk.injEq]at h;obtain⟨rfl,rfl,rfl⟩:=h;have g1:=q4H m (st:=(l1,f1)) (by rw[e3])
  dsimp only at g1;subst g1;obtain⟨a,ha,rfl,rfl⟩:=z4i e1;have ba:Bytes a:=fun x hx=>hb x (by simp[hx])
  have b2:Bytes l1:=fun x hx=>hb x (by simp[hx])
  obtain⟨r1,r2⟩:=ih b2 e3;refine⟨by simp[r1],?_⟩
  have q1:=z5R a ba 0;rw[ha]at q1;rw[List.flatMap_cons,q1,List.append_assoc,← r2]
theorem q5e{l r:List Int}{k i v n:Int}{S:List (Int×Int)}{D:List Int}(hb:Bytes l)(h:parse l=((k,i,v,n,S,D),(r,false))):l=enc k i v n S D ++ r:=by
 have hbd:=z7b l hb
 rcases e1:p1 l with⟨x1,l1,f1⟩
 rcases e2:p2 l with⟨x2,l2,f2⟩
 rcases e3:p3 l with⟨x3,l3,f3⟩
 rcases e4:p4 l with⟨x4,l4,f4⟩
 rcases e5:p5 l with⟨c,l5,f5⟩
 rcases e6:p6 l with⟨S',l6,f6⟩
 rcases e7:p7 l with⟨d,l7,f7⟩
 rcases e8:p8 l with⟨D',l8,f8⟩
 rw[parse,e1,e2,e3,e4,e6,e8]at h;simp only[Prod.mk.injEq]at h;obtain⟨⟨rfl,rfl,rfl,rfl,rfl,rfl⟩,rfl,rfl⟩:=h;rw[e5,e7]at hbd;dsimp only at hbd;have n1:=e1;rw[p1]at n1;have n2:=e2;rw[p2,e1]at n2;dsimp only at n2;have n3:=e3;rw[p3,e2]at n3;dsimp only at n3;have n4:=e4;rw[p4,e3]at n4;dsimp only at n4;have n5:=e5;rw[p5,e4]at n5;dsimp only at n5;have n6:=e6;rw[p6,e5]at n6;dsimp only at n6;have n7:=e7;rw[p7,e6]at n7;dsimp only at n7;have n8:=e8;rw[p8,e7]at n8;dsimp only at n8;clear e1 e2 e3 e4 e5 e6 e7 e8;have g7:=q4H d.toNat (st:=(l7,f7)) (by rw[n8])
 dsimp only at g7;subst g7;have g6:=(z3J (m:=1) (st:=(l6,f6)) (by rw[n7])).1
 dsimp only at g6;subst g6;have g5:=q3O c.toNat (st:=(l5,f5)) (by rw[n6])
 dsimp only at g5;subst g5;have g4:=(z3J (m:=1) (st:=(l4,f4)) (by rw[n5])).1
 dsimp only at g4;subst g4;have g3:=(z3J (m:=7) (st:=(l3,f3)) (by rw[n4])).1
 dsimp only at g3;subst g3;have g2:=(z3J (m:=1) (st:=(l2,f2)) (by rw[n3])).1
 dsimp only at g2;subst g2;have g1:=(z3J (m:=6) (st:=(l1,f1)) (by rw[n2])).1
 dsimp only at g1;subst g1;obtain⟨a1,h1,rfl,rfl⟩:=z4i n1;obtain⟨a2,h2,rfl,rfl⟩:=z4i n2;obtain⟨a3,h3,rfl,rfl⟩:=z4i n3;obtain⟨a4,h4,rfl,rfl⟩:=z4i n4;obtain⟨a5,h5,rfl,rfl⟩:=z4i n5;have b5:Bytes l5:=fun x hx=>hb x (by simp[hx])
 obtain⟨r1,r2⟩:=j1t _ b5 n6;obtain⟨a7,h7,rfl,rfl⟩:=z4i n7;have b7:Bytes l7:=fun x hx=>hb x (by rw[r2];simp[hx])
 obtain⟨r3,r4⟩:=j3w _ b7 n8;have q1:=z5R a1 (fun x hx=>hb x (by simp[hx])) 0
 have q2:=z5R a2 (fun x hx=>hb x (by simp[hx])) 0
 have q3:=z5R a3 (fun x hx=>hb x (by simp[hx])) 0
 have q4:=z5R a4 (fun x hx=>hb x (by simp[hx])) 0
 have q5:=z5R a5 (fun x hx=>hb x (by simp[hx])) 0
 have q7:=z5R a7 (fun x hx=>hb x (by rw[r2];simp[hx])) 0
 rw[h1]at q1;rw[h2]at q2;rw[h3]at q3;rw[h4]at q4;rw[h5]at q5;rw[h7]at q7;have w5:(S'.length:Int)=z4x 0 a5:=by omega
 have w7:(D'.length:Int)=z4x 0 a7:=by omega
 unfold enc q4j;rw[q1,q2,q3,q4,w5,q5,w7,q7,r2,r4]
 simp
theorem q0N{l:List Int}(hb:Bytes l)(h:z6l l=0):z0m (z2q l).1 (z2q l).2.1 (z2q l).2.2.1 (z2q l).2.2.2.1 (z2q l).2.2.2.2.1 (z2q l).2.2.2.2.2=0/\enc (z2q l).1 (z2q l).2.1 (z2q l).2.2.1 (z2q l).2.2.2.1 (z2q l).2.2.2.2.1 (z2q l).2.2.2.2.2=l:=by
 have hP:z2q l=(parse l).1:=by rw[z2q,if_pos h]
 rw[hP];unfold z6l at h
 split at h
 ·rename_i h2
  rcases e:parse l with⟨⟨k',i',v',n',S',D'⟩,st⟩
  rw[e]at h h2;dsimp only at h2;subst h2;have h3:=q5e hb e;rw[List.append_nil]at h3;exact⟨h,h3.symm⟩
 ·cases h
end Cd
namespace Pv
open Go.RowKit
def isT(n:Int):Bool:=decide (0<=n) && decide (n<=1099511627776)
def z2i(l:List Int):Pkt:=⟨(Cd.z2q l).1,(Cd.z2q l).2.1,(Cd.z2q l).2.2.1,(Cd.z2q l).2.2.2.1,(Cd.z2q l).2.2.2.2.1,(Cd.z2q l).2.2.2.2.2⟩
theorem apR{P:Nat->Prop}(t e:TypeId)(i0:TypeInfo)(z:Value)(hu:prog.underlying t=some (.slice e))(hi:prog.info? e=some i0)(hz0:i0.zero=some z)(w:World)(A:Option Addr)(n y bt:Nat)(cs news:List Value)(hr:Rep P w (.slice A n n) i0.size bt cs)(hb:n * i0.bytes<=140737488351232)(hb1:0<i0.bytes)(hb2:i0.bytes<=1000)(hl:news.length=i0.size)(hy:∀ j v,news[j]?=some v->w.cell? ⟨y,j,none⟩=some v) :
  ∃ C w',(Builtin.append_ #[t,t] t #[.slice A n n,.slice (some ⟨y,0,none⟩) 1 1]).run prog w=.ok (.slice (some ⟨w.heap.size,0,none⟩) (n+1) C) w'/\n+1<=C/\(∀ j u,(cs ++ news)[j]?=some u->w'.cell? ⟨w.heap.size,j,none⟩=some u)/\Below w.heap.size w w'/\w.heap.size<w'.heap.size:=by
 have hnews:∀ j v,news[j]?=some v->w.cell? ((⟨y,0,none⟩:Addr).add j)=some v:=fun j v hv=>by rw[Addr.add_lit,Nat.zero_add];exact hy j v hv
 have hn63:n<=140737488351232:=by
  have:=Nat.le_mul_of_pos_right n hb1;omega
 obtain⟨A',n',C',h1,h2,h3,h4,h5⟩:=hr;cases h1
 have new:∀ (arr tail:Array Value),arr.toList=cs ++ news->∀ j u,(cs ++ news)[j]?=some u->(w.drew.alloc (.cells (arr ++ tail) e)).cell? ⟨w.heap.size,j,none⟩=some u:=fun arr tail ha j u hj=>by
  have hj':arr[j]?=some u:=by rw[← ha]at hj;simpa using hj
  have hlt:=(Array.getElem?_eq_some_iff.1 hj').1;have h:(w.drew.alloc (.cells (arr ++ tail) e)).heap[w.heap.size]?=some (.cells (arr ++ tail) e):=heap_alloc_new w.drew _;simp only[World.cell?,h];rw[Array.getElem?_append_left hlt]
  simp[hj']
 cases A with
 | none =>
  have h0:n=0:=by
   rcases Nat.eq_zero_or_pos n with h | h
   ·exact h
   ·obtain⟨b,off,e,_⟩:=h5 h;cases e
  subst h0;have hc0:cs=[]:=List.length_eq_zero_iff.1 (by rw[h2,Nat.zero_mul])
  subst hc0;refine⟨_,_,run_append_nil (P:=prog) w t t e i0 z hu hi hz0 ⟨y,0,none⟩ 1 1 news (by rw[hl,Nat.one_mul]) hnews (by omega) (by omega) (by omega),grownCap_ge _ _ _ _,?_,(Below.refl _ w).drew.alloc (Nat.le_refl _) _,by simp⟩
  exact new _ _ (by simp)
 | some a =>
  have hold:∀ j v,cs[j]?=some v->w.cell? (a.add j)=some v:=fun j v hv=>by
   have h0:0<n:=by
    rcases Nat.eq_zero_or_pos n with h | h
    ·subst h;have:=(List.getElem?_eq_some_iff.1 hv).1;rw[h2,Nat.zero_mul]at this;omega
    ·exact h
   obtain⟨b,off,e,_,_,hc⟩:=h5 h0;cases e;rw[Addr.add_lit];exact hc j v hv
  have hcap:Builtin.nextslicecap (n+1) n * i0.bytes<=281474976710656:=by
   rcases Nat.eq_zero_or_pos n with rfl | hp
   ·rw[nextslicecap_zero (by omega)];omega
   ·have:=Nat.mul_le_mul_right i0.bytes (nextslicecap_succ hp);rw[Nat.mul_assoc]at this;omega
  refine⟨_,_,run_append_grow (P:=prog) w t t e i0 z hu hi hz0 a n n cs h2 hold ⟨y,0,none⟩ 1 1 news (by rw[hl,Nat.one_mul]) hnews (by omega) (by omega) hcap,grownCap_ge _ _ _ _,?_,(Below.refl _ w).drew.alloc (Nat.le_refl _) _,by simp⟩
  exact new _ _ (by simp)
theorem Rep.clip{P:Nat->Prop}{w:World}{A:Option Addr}{n C sz bts:Nat}{cs:List Value}(h:Rep P w (.slice A n C) sz bts cs):Rep P w (.slice A n n) sz bts cs:=by
 obtain⟨A',n',C',h1,h2,h3,h4,h5⟩:=h;cases h1;refine⟨A,n,n,rfl,h2,h3,⟨fun e=>?_,Nat.le_refl _⟩,h5⟩;have:=h4.1 e;omega
theorem q0J{P:Nat->Prop}{w:World}{A:Option Addr}{C sz bts:Nat}(h:A=none->C=0):Rep P w (.slice A 0 C) sz bts []:=⟨A,0,C,rfl,by simp,by simp,⟨h,Nat.zero_le _⟩,fun h=>absurd h (by omega)⟩
theorem j2i{k i v n:Int}{S:List (Int×Int)}{D:List Int}(h:Cd.z0m k i v n S D=0):(1<=k/\k<=4)/\(1<=i/\i<=1099511627776)/\(k=3∨k=4->0<=v/\v<6)/\(k≠1->S=[]/\D=[]):=by
 unfold Cd.z0m at h
 by_cases h1:k<1∨4<k
 ·rw[if_pos h1]at h;exact absurd h (by decide)
 rw[if_neg h1]at h
 by_cases h2:i<1∨1099511627776<i
 ·rw[if_pos h2]at h;exact absurd h (by decide)
 rw[if_neg h2]at h
 by_cases h3:Cd.z6U k=true/\(Cd.isV v=false∨n<1∨1125899906842624<n)
 ·rw[if_pos h3]at h;exact absurd h (by decide)
 rw[if_neg h3]at h
 by_cases h4:Cd.z8t k v n S.length D.length=true
 ·rw[if_pos h4]at h;exact absurd h (by decide)
 refine⟨by omega,by omega,fun hk=>?_,fun hk=>?_⟩
 ·have ha:Cd.z6U k=true:=by
   unfold Cd.z6U
   rcases hk with rfl | rfl <;> rfl
  by_cases hv:Cd.isV v=false
  ·exact absurd ⟨ha,.inl hv⟩ h3
  ·unfold Cd.isV at hv;simpa using hv
 ·have h5:(k != 1 && ((S.length:Int) != 0 || (D.length:Int) != 0))=false:=by
   have:Cd.z8t k v n S.length D.length=false:=by simpa using h4
   unfold Cd.z8t at this;simp only[Bool.or_eq_false_iff]at this
   simpa using this.2
  have hk':(k != 1)=true:=by simpa using hk
  rw[hk',Bool.true_and,Bool.or_eq_false_iff]at h5;have e1:S.length=0:=by have:=h5.1;simp at this;simp[this]
  have e2:D.length=0:=by have:=h5.2;simp at this;simp[this]
  exact⟨List.length_eq_zero_iff.1 e1,List.length_eq_zero_iff.1 e2⟩
end Pv
section
open Go.RowKit
theorem y0c(b:Bk)(n:Int)(c:Nat)(w:World)(hc:w.cell? ⟨c,0,none⟩=some (.int .i64 0))(hcl:c<w.heap.size) :
  Calls prog 150 #[.agg #[.int .i64 b.f0,.int .i64 b.f1,.int .i64 b.f2,.int .i64 b.f3,.int .i64 b.bo,.int .i64 b.wa,.int .i64 b.bu],(.func (.func 172) #[] #[.pointer (some ⟨c,0,none⟩)]),(.func (.func 173) #[] #[]),.int .i64 n] w fun e w'=>e=.returned (.tuple #[.agg #[.int .i64 (mv b 0 4 n).1.f0,.int .i64 (mv b 0 4 n).1.f1,.int .i64 (mv b 0 4 n).1.f2,.int .i64 (mv b 0 4 n).1.f3,.int .i64 (mv b 0 4 n).1.bo,.int .i64 (mv b 0 4 n).1.wa,.int .i64 (mv b 0 4 n).1.bu],.int .i64 (mv b 0 4 n).2])/\Below w.heap.size w w':=by
 by_cases hg:b.good=true
 ·by_cases hn:0<=n/\n<=1125899906842624
  ·have h1:¬ (b.good=false∨¬ (0<=n/\n<=1125899906842624)):=by rw[hg];simp[hn]
   by_cases hl:b.f0<n
   ·have e:mv b 0 4 n=(b,7):=by rw[mv,if_neg h1,if_pos (show b.get 0<n from hl)]
    rw[e];exact q1G b.f0 b.f1 b.f2 b.f3 b.bo b.wa b.bu n c _ w hc hcl hg hn.1 hn.2 hl
   ·have e:mv b 0 4 n=((b.put 0 (b.f0 - n)).put 4 (b.bo+n),0):=by rw[mv,if_neg h1,if_neg (show ¬ b.get 0<n from hl)];rfl
    rw[e];exact q5b b.f0 b.f1 b.f2 b.f3 b.bo b.wa b.bu n c w hc hcl hg hn.1 hn.2 (by omega)
  ·have e:mv b 0 4 n=(b,2):=by rw[mv,if_pos (.inr hn)]
   rw[e];exact z0J b.f0 b.f1 b.f2 b.f3 b.bo b.wa b.bu n _ _ w hg hn
 ·have e:mv b 0 4 n=(b,2):=by rw[mv,if_pos (.inl (by simpa using hg))]
  rw[e];exact z0B b.f0 b.f1 b.f2 b.f3 b.bo b.wa b.bu n _ _ w (by simpa [Bk.good] using hg)
theorem y0I(b:Bk)(n:Int)(c:Nat)(w:World)(hc:w.cell? ⟨c,0,none⟩=some (.int .i64 1))(hcl:c<w.heap.size) :
  Calls prog 150 #[.agg #[.int .i64 b.f0,.int .i64 b.f1,.int .i64 b.f2,.int .i64 b.f3,.int .i64 b.bo,.int .i64 b.wa,.int .i64 b.bu],(.func (.func 172) #[] #[.pointer (some ⟨c,0,none⟩)]),(.func (.func 173) #[] #[]),.int .i64 n] w fun e w'=>e=.returned (.tuple #[.agg #[.int .i64 (mv b 1 4 n).1.f0,.int .i64 (mv b 1 4 n).1.f1,.int .i64 (mv b 1 4 n).1.f2,.int .i64 (mv b 1 4 n).1.f3,.int .i64 (mv b 1 4 n).1.bo,.int .i64 (mv b 1 4 n).1.wa,.int .i64 (mv b 1 4 n).1.bu],.int .i64 (mv b 1 4 n).2])/\Below w.heap.size w w':=by
 by_cases hg:b.good=true
 ·by_cases hn:0<=n/\n<=1125899906842624
  ·have h1:¬ (b.good=false∨¬ (0<=n/\n<=1125899906842624)):=by rw[hg];simp[hn]
   by_cases hl:b.f1<n
   ·have e:mv b 1 4 n=(b,7):=by rw[mv,if_neg h1,if_pos (show b.get 1<n from hl)]
    rw[e];exact q1a b.f0 b.f1 b.f2 b.f3 b.bo b.wa b.bu n c _ w hc hcl hg hn.1 hn.2 hl
   ·have e:mv b 1 4 n=((b.put 1 (b.f1 - n)).put 4 (b.bo+n),0):=by rw[mv,if_neg h1,if_neg (show ¬ b.get 1<n from hl)];rfl
    rw[e];exact q5x b.f0 b.f1 b.f2 b.f3 b.bo b.wa b.bu n c w hc hcl hg hn.1 hn.2 (by omega)
  ·have e:mv b 1 4 n=(b,2):=by rw[mv,if_pos (.inr hn)]
   rw[e];exact z0J b.f0 b.f1 b.f2 b.f3 b.bo b.wa b.bu n _ _ w hg hn
 ·have e:mv b 1 4 n=(b,2):=by rw[mv,if_pos (.inl (by simpa using hg))]
  rw[e];exact z0B b.f0 b.f1 b.f2 b.f3 b.bo b.wa b.bu n _ _ w (by simpa [Bk.good] using hg)
theorem y0P(b:Bk)(n:Int)(c:Nat)(w:World)(hc:w.cell? ⟨c,0,none⟩=some (.int .i64 2))(hcl:c<w.heap.size) :
  Calls prog 150 #[.agg #[.int .i64 b.f0,.int .i64 b.f1,.int .i64 b.f2,.int .i64 b.f3,.int .i64 b.bo,.int .i64 b.wa,.int .i64 b.bu],(.func (.func 172) #[] #[.pointer (some ⟨c,0,none⟩)]),(.func (.func 173) #[] #[]),.int .i64 n] w fun e w'=>e=.returned (.tuple #[.agg #[.int .i64 (mv b 2 4 n).1.f0,.int .i64 (mv b 2 4 n).1.f1,.int .i64 (mv b 2 4 n).1.f2,.int .i64 (mv b 2 4 n).1.f3,.int .i64 (mv b 2 4 n).1.bo,.int .i64 (mv b 2 4 n).1.wa,.int .i64 (mv b 2 4 n).1.bu],.int .i64 (mv b 2 4 n).2])/\Below w.heap.size w w':=by
 by_cases hg:b.good=true
 ·by_cases hn:0<=n/\n<=1125899906842624
  ·have h1:¬ (b.good=false∨¬ (0<=n/\n<=1125899906842624)):=by rw[hg];simp[hn]
   by_cases hl:b.f2<n
   ·have e:mv b 2 4 n=(b,7):=by rw[mv,if_neg h1,if_pos (show b.get 2<n from hl)]
    rw[e];exact q1o b.f0 b.f1 b.f2 b.f3 b.bo b.wa b.bu n c _ w hc hcl hg hn.1 hn.2 hl
   ·have e:mv b 2 4 n=((b.put 2 (b.f2 - n)).put 4 (b.bo+n),0):=by rw[mv,if_neg h1,if_neg (show ¬ b.get 2<n from hl)];rfl
    rw[e];exact q6d b.f0 b.f1 b.f2 b.f3 b.bo b.wa b.bu n c w hc hcl hg hn.1 hn.2 (by omega)
  ·have e:mv b 2 4 n=(b,2):=by rw[mv,if_pos (.inr hn)]
   rw[e];exact z0J b.f0 b.f1 b.f2 b.f3 b.bo b.wa b.bu n _ _ w hg hn
 ·have e:mv b 2 4 n=(b,2):=by rw[mv,if_pos (.inl (by simpa using hg))]
  rw[e];exact z0B b.f0 b.f1 b.f2 b.f3 b.bo b.wa b.bu n _ _ w (by simpa [Bk.good] using hg)
theorem y0C(b:Bk)(n:Int)(c:Nat)(w:World)(hc:w.cell? ⟨c,0,none⟩=some (.int .i64 3))(hcl:c<w.heap.size) :
  Calls prog 150 #[.agg #[.int .i64 b.f0,.int .i64 b.f1,.int .i64 b.f2,.int .i64 b.f3,.int .i64 b.bo,.int .i64 b.wa,.int .i64 b.bu],(.func (.func 172) #[] #[.pointer (some ⟨c,0,none⟩)]),(.func (.func 173) #[] #[]),.int .i64 n] w fun e w'=>e=.returned (.tuple #[.agg #[.int .i64 (mv b 3 4 n).1.f0,.int .i64 (mv b 3 4 n).1.f1,.int .i64 (mv b 3 4 n).1.f2,.int .i64 (mv b 3 4 n).1.f3,.int .i64 (mv b 3 4 n).1.bo,.int .i64 (mv b 3 4 n).1.wa,.int .i64 (mv b 3 4 n).1.bu],.int .i64 (mv b 3 4 n).2])/\Below w.heap.size w w':=by
 by_cases hg:b.good=true
 ·by_cases hn:0<=n/\n<=1125899906842624
  ·have h1:¬ (b.good=false∨¬ (0<=n/\n<=1125899906842624)):=by rw[hg];simp[hn]
   by_cases hl:b.f3<n
   ·have e:mv b 3 4 n=(b,7):=by rw[mv,if_neg h1,if_pos (show b.get 3<n from hl)]
    rw[e];exact q0T b.f0 b.f1 b.f2 b.f3 b.bo b.wa b.bu n c _ w hc hcl hg hn.1 hn.2 hl
   ·have e:mv b 3 4 n=((b.put 3 (b.f3 - n)).put 4 (b.bo+n),0):=by rw[mv,if_neg h1,if_neg (show ¬ b.get 3<n from hl)];rfl
    rw[e];exact q5L b.f0 b.f1 b.f2 b.f3 b.bo b.wa b.bu n c w hc hcl hg hn.1 hn.2 (by omega)
  ·have e:mv b 3 4 n=(b,2):=by rw[mv,if_pos (.inr hn)]
   rw[e];exact z0J b.f0 b.f1 b.f2 b.f3 b.bo b.wa b.bu n _ _ w hg hn
 ·have e:mv b 3 4 n=(b,2):=by rw[mv,if_pos (.inl (by simpa using hg))]
  rw[e];exact z0B b.f0 b.f1 b.f2 b.f3 b.bo b.wa b.bu n _ _ w (by simpa [Bk.good] using hg)
theorem y0i(b:Bk)(n:Int)(c:Nat)(w:World)(hc:w.cell? ⟨c,0,none⟩=some (.int .i64 0))(hcl:c<w.heap.size) :
  Calls prog 150 #[.agg #[.int .i64 b.f0,.int .i64 b.f1,.int .i64 b.f2,.int .i64 b.f3,.int .i64 b.bo,.int .i64 b.wa,.int .i64 b.bu],(.func (.func 174) #[] #[]),(.func (.func 172) #[] #[.pointer (some ⟨c,0,none⟩)]),.int .i64 n] w fun e w'=>e=.returned (.tuple #[.agg #[.int .i64 (mv b 5 0 n).1.f0,.int .i64 (mv b 5 0 n).1.f1,.int .i64 (mv b 5 0 n).1.f2,.int .i64 (mv b 5 0 n).1.f3,.int .i64 (mv b 5 0 n).1.bo,.int .i64 (mv b 5 0 n).1.wa,.int .i64 (mv b 5 0 n).1.bu],.int .i64 (mv b 5 0 n).2])/\Below w.heap.size w w':=by
 by_cases hg:b.good=true
 ·by_cases hn:0<=n/\n<=1125899906842624
  ·have h1:¬ (b.good=false∨¬ (0<=n/\n<=1125899906842624)):=by rw[hg];simp[hn]
   by_cases hl:b.wa<n
   ·have e:mv b 5 0 n=(b,7):=by rw[mv,if_neg h1,if_pos (show b.get 5<n from hl)]
    rw[e];exact z2Y b.f0 b.f1 b.f2 b.f3 b.bo b.wa b.bu n _ w hg hn.1 hn.2 hl
   ·have e:mv b 5 0 n=((b.put 5 (b.wa - n)).put 0 (b.f0+n),0):=by rw[mv,if_neg h1,if_neg (show ¬ b.get 5<n from hl)];rfl
    rw[e];exact q6p b.f0 b.f1 b.f2 b.f3 b.bo b.wa b.bu n c w hc hcl hg hn.1 hn.2 (by omega)
  ·have e:mv b 5 0 n=(b,2):=by rw[mv,if_pos (.inr hn)]
   rw[e];exact z0J b.f0 b.f1 b.f2 b.f3 b.bo b.wa b.bu n _ _ w hg hn
 ·have e:mv b 5 0 n=(b,2):=by rw[mv,if_pos (.inl (by simpa using hg))]
  rw[e];exact z0B b.f0 b.f1 b.f2 b.f3 b.bo b.wa b.bu n _ _ w (by simpa [Bk.good] using hg)
theorem y0B(b:Bk)(n:Int)(c:Nat)(w:World)(hc:w.cell? ⟨c,0,none⟩=some (.int .i64 1))(hcl:c<w.heap.size) :
  Calls prog 150 #[.agg #[.int .i64 b.f0,.int .i64 b.f1,.int .i64 b.f2,.int .i64 b.f3,.int .i64 b.bo,.int .i64 b.wa,.int .i64 b.bu],(.func (.func 174) #[] #[]),(.func (.func 172) #[] #[.pointer (some ⟨c,0,none⟩)]),.int .i64 n] w fun e w'=>e=.returned (.tuple #[.agg #[.int .i64 (mv b 5 1 n).1.f0,.int .i64 (mv b 5 1 n).1.f1,.int .i64 (mv b 5 1 n).1.f2,.int .i64 (mv b 5 1 n).1.f3,.int .i64 (mv b 5 1 n).1.bo,.int .i64 (mv b 5 1 n).1.wa,.int .i64 (mv b 5 1 n).1.bu],.int .i64 (mv b 5 1 n).2])/\Below w.heap.size w w':=by
 by_cases hg:b.good=true
 ·by_cases hn:0<=n/\n<=1125899906842624
  ·have h1:¬ (b.good=false∨¬ (0<=n/\n<=1125899906842624)):=by rw[hg];simp[hn]
   by_cases hl:b.wa<n
   ·have e:mv b 5 1 n=(b,7):=by rw[mv,if_neg h1,if_pos (show b.get 5<n from hl)]
    rw[e];exact z2Y b.f0 b.f1 b.f2 b.f3 b.bo b.wa b.bu n _ w hg hn.1 hn.2 hl
   ·have e:mv b 5 1 n=((b.put 5 (b.wa - n)).put 1 (b.f1+n),0):=by rw[mv,if_neg h1,if_neg (show ¬ b.get 5<n from hl)];rfl
    rw[e];exact q4T b.f0 b.f1 b.f2 b.f3 b.bo b.wa b.bu n c w hc hcl hg hn.1 hn.2 (by omega)
  ·have e:mv b 5 1 n=(b,2):=by rw[mv,if_pos (.inr hn)]
   rw[e];exact z0J b.f0 b.f1 b.f2 b.f3 b.bo b.wa b.bu n _ _ w hg hn
 ·have e:mv b 5 1 n=(b,2):=by rw[mv,if_pos (.inl (by simpa using hg))]
  rw[e];exact z0B b.f0 b.f1 b.f2 b.f3 b.bo b.wa b.bu n _ _ w (by simpa [Bk.good] using hg)
theorem y0E(b:Bk)(n:Int)(c:Nat)(w:World)(hc:w.cell? ⟨c,0,none⟩=some (.int .i64 2))(hcl:c<w.heap.size) :
  Calls prog 150 #[.agg #[.int .i64 b.f0,.int .i64 b.f1,.int .i64 b.f2,.int .i64 b.f3,.int .i64 b.bo,.int .i64 b.wa,.int .i64 b.bu],(.func (.func 174) #[] #[]),(.func (.func 172) #[] #[.pointer (some ⟨c,0,none⟩)]),.int .i64 n] w fun e w'=>e=.returned (.tuple #[.agg #[.int .i64 (mv b 5 2 n).1.f0,.int .i64 (mv b 5 2 n).1.f1,.int .i64 (mv b 5 2 n).1.f2,.int .i64 (mv b 5 2 n).1.f3,.int .i64 (mv b 5 2 n).1.bo,.int .i64 (mv b 5 2 n).1.wa,.int .i64 (mv b 5 2 n).1.bu],.int .i64 (mv b 5 2 n).2])/\Below w.heap.size w w':=by
 by_cases hg:b.good=true
 ·by_cases hn:0<=n/\n<=1125899906842624
  ·have h1:¬ (b.good=false∨¬ (0<=n/\n<=1125899906842624)):=by rw[hg];simp[hn]
   by_cases hl:b.wa<n
   ·have e:mv b 5 2 n=(b,7):=by rw[mv,if_neg h1,if_pos (show b.get 5<n from hl)]
    rw[e];exact z2Y b.f0 b.f1 b.f2 b.f3 b.bo b.wa b.bu n _ w hg hn.1 hn.2 hl
   ·have e:mv b 5 2 n=((b.put 5 (b.wa - n)).put 2 (b.f2+n),0):=by rw[mv,if_neg h1,if_neg (show ¬ b.get 5<n from hl)];rfl
    rw[e];exact q5m b.f0 b.f1 b.f2 b.f3 b.bo b.wa b.bu n c w hc hcl hg hn.1 hn.2 (by omega)
  ·have e:mv b 5 2 n=(b,2):=by rw[mv,if_pos (.inr hn)]
   rw[e];exact z0J b.f0 b.f1 b.f2 b.f3 b.bo b.wa b.bu n _ _ w hg hn
 ·have e:mv b 5 2 n=(b,2):=by rw[mv,if_pos (.inl (by simpa using hg))]
  rw[e];exact z0B b.f0 b.f1 b.f2 b.f3 b.bo b.wa b.bu n _ _ w (by simpa [Bk.good] using hg)
theorem y0u(b:Bk)(n:Int)(c:Nat)(w:World)(hc:w.cell? ⟨c,0,none⟩=some (.int .i64 3))(hcl:c<w.heap.size) :
  Calls prog 150 #[.agg #[.int .i64 b.f0,.int .i64 b.f1,.int .i64 b.f2,.int .i64 b.f3,.int .i64 b.bo,.int .i64 b.wa,.int .i64 b.bu],(.func (.func 174) #[] #[]),(.func (.func 172) #[] #[.pointer (some ⟨c,0,none⟩)]),.int .i64 n] w fun e w'=>e=.returned (.tuple #[.agg #[.int .i64 (mv b 5 3 n).1.f0,.int .i64 (mv b 5 3 n).1.f1,.int .i64 (mv b 5 3 n).1.f2,.int .i64 (mv b 5 3 n).1.f3,.int .i64 (mv b 5 3 n).1.bo,.int .i64 (mv b 5 3 n).1.wa,.int .i64 (mv b 5 3 n).1.bu],.int .i64 (mv b 5 3 n).2])/\Below w.heap.size w w':=by
 by_cases hg:b.good=true
 ·by_cases hn:0<=n/\n<=1125899906842624
  ·have h1:¬ (b.good=false∨¬ (0<=n/\n<=1125899906842624)):=by rw[hg];simp[hn]
   by_cases hl:b.wa<n
   ·have e:mv b 5 3 n=(b,7):=by rw[mv,if_neg h1,if_pos (show b.get 5<n from hl)]
    rw[e];exact z2Y b.f0 b.f1 b.f2 b.f3 b.bo b.wa b.bu n _ w hg hn.1 hn.2 hl
   ·have e:mv b 5 3 n=((b.put 5 (b.wa - n)).put 3 (b.f3+n),0):=by rw[mv,if_neg h1,if_neg (show ¬ b.get 5<n from hl)];rfl
    rw[e];exact q6b b.f0 b.f1 b.f2 b.f3 b.bo b.wa b.bu n c w hc hcl hg hn.1 hn.2 (by omega)
  ·have e:mv b 5 3 n=(b,2):=by rw[mv,if_pos (.inr hn)]
   rw[e];exact z0J b.f0 b.f1 b.f2 b.f3 b.bo b.wa b.bu n _ _ w hg hn
 ·have e:mv b 5 3 n=(b,2):=by rw[mv,if_pos (.inl (by simpa using hg))]
  rw[e];exact z0B b.f0 b.f1 b.f2 b.f3 b.bo b.wa b.bu n _ _ w (by simpa [Bk.good] using hg)
theorem y0H(b:Bk)(n:Int)(w:World) :
  Calls prog 150 #[.agg #[.int .i64 b.f0,.int .i64 b.f1,.int .i64 b.f2,.int .i64 b.f3,.int .i64 b.bo,.int .i64 b.wa,.int .i64 b.bu],(.func (.func 173) #[] #[]),(.func (.func 174) #[] #[]),.int .i64 n] w fun e w'=>e=.returned (.tuple #[.agg #[.int .i64 (mv b 4 5 n).1.f0,.int .i64 (mv b 4 5 n).1.f1,.int .i64 (mv b 4 5 n).1.f2,.int .i64 (mv b 4 5 n).1.f3,.int .i64 (mv b 4 5 n).1.bo,.int .i64 (mv b 4 5 n).1.wa,.int .i64 (mv b 4 5 n).1.bu],.int .i64 (mv b 4 5 n).2])/\Below w.heap.size w w':=by
 by_cases hg:b.good=true
 ·by_cases hn:0<=n/\n<=1125899906842624
  ·have h1:¬ (b.good=false∨¬ (0<=n/\n<=1125899906842624)):=by rw[hg];simp[hn]
   by_cases hl:b.bo<n
   ·have e:mv b 4 5 n=(b,7):=by rw[mv,if_neg h1,if_pos (show b.get 4<n from hl)]
    rw[e];exact z6Z b.f0 b.f1 b.f2 b.f3 b.bo b.wa b.bu n _ w hg hn.1 hn.2 hl
   ·have e:mv b 4 5 n=((b.put 4 (b.bo - n)).put 5 (b.wa+n),0):=by rw[mv,if_neg h1,if_neg (show ¬ b.get 4<n from hl)];rfl
    rw[e];exact q6f b.f0 b.f1 b.f2 b.f3 b.bo b.wa b.bu n w hg hn.1 hn.2 (by omega)
  ·have e:mv b 4 5 n=(b,2):=by rw[mv,if_pos (.inr hn)]
   rw[e];exact z0J b.f0 b.f1 b.f2 b.f3 b.bo b.wa b.bu n _ _ w hg hn
 ·have e:mv b 4 5 n=(b,2):=by rw[mv,if_pos (.inl (by simpa using hg))]
  rw[e];exact z0B b.f0 b.f1 b.f2 b.f3 b.bo b.wa b.bu n _ _ w (by simpa [Bk.good] using hg)
theorem y0K(b:Bk)(n:Int)(w:World) :
  Calls prog 150 #[.agg #[.int .i64 b.f0,.int .i64 b.f1,.int .i64 b.f2,.int .i64 b.f3,.int .i64 b.bo,.int .i64 b.wa,.int .i64 b.bu],(.func (.func 173) #[] #[]),(.func (.func 195) #[] #[]),.int .i64 n] w fun e w'=>e=.returned (.tuple #[.agg #[.int .i64 (mv b 4 6 n).1.f0,.int .i64 (mv b 4 6 n).1.f1,.int .i64 (mv b 4 6 n).1.f2,.int .i64 (mv b 4 6 n).1.f3,.int .i64 (mv b 4 6 n).1.bo,.int .i64 (mv b 4 6 n).1.wa,.int .i64 (mv b 4 6 n).1.bu],.int .i64 (mv b 4 6 n).2])/\Below w.heap.size w w':=by
 by_cases hg:b.good=true
 ·by_cases hn:0<=n/\n<=1125899906842624
  ·have h1:¬ (b.good=false∨¬ (0<=n/\n<=1125899906842624)):=by rw[hg];simp[hn]
   by_cases hl:b.bo<n
   ·have e:mv b 4 6 n=(b,7):=by rw[mv,if_neg h1,if_pos (show b.get 4<n from hl)]
    rw[e];exact z6Z b.f0 b.f1 b.f2 b.f3 b.bo b.wa b.bu n _ w hg hn.1 hn.2 hl
   ·have e:mv b 4 6 n=((b.put 4 (b.bo - n)).put 6 (b.bu+n),0):=by rw[mv,if_neg h1,if_neg (show ¬ b.get 4<n from hl)];rfl
    rw[e];exact q6G b.f0 b.f1 b.f2 b.f3 b.bo b.wa b.bu n w hg hn.1 hn.2 (by omega)
  ·have e:mv b 4 6 n=(b,2):=by rw[mv,if_pos (.inr hn)]
   rw[e];exact z0J b.f0 b.f1 b.f2 b.f3 b.bo b.wa b.bu n _ _ w hg hn
 ·have e:mv b 4 6 n=(b,2):=by rw[mv,if_pos (.inl (by simpa using hg))]
  rw[e];exact z0B b.f0 b.f1 b.f2 b.f3 b.bo b.wa b.bu n _ _ w (by simpa [Bk.good] using hg)
theorem y0R(b:Bk)(n:Int)(w:World) :
  Calls prog 150 #[.agg #[.int .i64 b.f0,.int .i64 b.f1,.int .i64 b.f2,.int .i64 b.f3,.int .i64 b.bo,.int .i64 b.wa,.int .i64 b.bu],(.func (.func 174) #[] #[]),(.func (.func 195) #[] #[]),.int .i64 n] w fun e w'=>e=.returned (.tuple #[.agg #[.int .i64 (mv b 5 6 n).1.f0,.int .i64 (mv b 5 6 n).1.f1,.int .i64 (mv b 5 6 n).1.f2,.int .i64 (mv b 5 6 n).1.f3,.int .i64 (mv b 5 6 n).1.bo,.int .i64 (mv b 5 6 n).1.wa,.int .i64 (mv b 5 6 n).1.bu],.int .i64 (mv b 5 6 n).2])/\Below w.heap.size w w':=by
 by_cases hg:b.good=true
 ·by_cases hn:0<=n/\n<=1125899906842624
  ·have h1:¬ (b.good=false∨¬ (0<=n/\n<=1125899906842624)):=by rw[hg];simp[hn]
   by_cases hl:b.wa<n
   ·have e:mv b 5 6 n=(b,7):=by rw[mv,if_neg h1,if_pos (show b.get 5<n from hl)]
    rw[e];exact z2Y b.f0 b.f1 b.f2 b.f3 b.bo b.wa b.bu n _ w hg hn.1 hn.2 hl
   ·have e:mv b 5 6 n=((b.put 5 (b.wa - n)).put 6 (b.bu+n),0):=by rw[mv,if_neg h1,if_neg (show ¬ b.get 5<n from hl)];rfl
    rw[e];exact q5R b.f0 b.f1 b.f2 b.f3 b.bo b.wa b.bu n w hg hn.1 hn.2 (by omega)
  ·have e:mv b 5 6 n=(b,2):=by rw[mv,if_pos (.inr hn)]
   rw[e];exact z0J b.f0 b.f1 b.f2 b.f3 b.bo b.wa b.bu n _ _ w hg hn
 ·have e:mv b 5 6 n=(b,2):=by rw[mv,if_pos (.inl (by simpa using hg))]
  rw[e];exact z0B b.f0 b.f1 b.f2 b.f3 b.bo b.wa b.bu n _ _ w (by simpa [Bk.good] using hg)
theorem j1C(b:Bk)(d n:Int)(w:World):Calls prog 107 #[.agg #[.int .i64 b.f0,.int .i64 b.f1,.int .i64 b.f2,.int .i64 b.f3,.int .i64 b.bo,.int .i64 b.wa,.int .i64 b.bu],.int .i64 d,.int .i64 n] w fun e w'=>e=.returned (.tuple #[.agg #[.int .i64 (z2B b d n).1.f0,.int .i64 (z2B b d n).1.f1,.int .i64 (z2B b d n).1.f2,.int .i64 (z2B b d n).1.f3,.int .i64 (z2B b d n).1.bo,.int .i64 (z2B b d n).1.wa,.int .i64 (z2B b d n).1.bu],.int .i64 (z2B b d n).2])/\Below w.heap.size w w':=by
 by_cases h:0<=d/\d<4
 ·rw[z2B,if_pos h];refine j0X b.f0 b.f1 b.f2 b.f3 b.bo b.wa b.bu d n (mv b d.toNat 4 n).1.f0 (mv b d.toNat 4 n).1.f1 (mv b d.toNat 4 n).1.f2 (mv b d.toNat 4 n).1.f3 (mv b d.toNat 4 n).1.bo (mv b d.toNat 4 n).1.wa (mv b d.toNat 4 n).1.bu (mv b d.toNat 4 n).2 w h.1 h.2 ?_;intro c w hc hcl
  rcases (show d=0∨d=1∨d=2∨d=3 by omega) with rfl | rfl | rfl | rfl
  ·exact y0c b n c w hc hcl
  ·exact y0I b n c w hc hcl
  ·exact y0P b n c w hc hcl
  ·exact y0C b n c w hc hcl
 ·rw[z2B,if_neg h];exact j7d b.f0 b.f1 b.f2 b.f3 b.bo b.wa b.bu d n w h
theorem j6g(b:Bk)(d n:Int)(w:World):Calls prog 116 #[.agg #[.int .i64 b.f0,.int .i64 b.f1,.int .i64 b.f2,.int .i64 b.f3,.int .i64 b.bo,.int .i64 b.wa,.int .i64 b.bu],.int .i64 d,.int .i64 n] w fun e w'=>e=.returned (.tuple #[.agg #[.int .i64 (z8J b d n).1.f0,.int .i64 (z8J b d n).1.f1,.int .i64 (z8J b d n).1.f2,.int .i64 (z8J b d n).1.f3,.int .i64 (z8J b d n).1.bo,.int .i64 (z8J b d n).1.wa,.int .i64 (z8J b d n).1.bu],.int .i64 (z8J b d n).2])/\Below w.heap.size w w':=by
 by_cases h:0<=d/\d<4
 ·rw[z8J,if_pos h];refine j1W b.f0 b.f1 b.f2 b.f3 b.bo b.wa b.bu d n (mv b 5 d.toNat n).1.f0 (mv b 5 d.toNat n).1.f1 (mv b 5 d.toNat n).1.f2 (mv b 5 d.toNat n).1.f3 (mv b 5 d.toNat n).1.bo (mv b 5 d.toNat n).1.wa (mv b 5 d.toNat n).1.bu (mv b 5 d.toNat n).2 w h.1 h.2 ?_;intro c w hc hcl
  rcases (show d=0∨d=1∨d=2∨d=3 by omega) with rfl | rfl | rfl | rfl
  ·exact y0i b n c w hc hcl
  ·exact y0B b n c w hc hcl
  ·exact y0E b n c w hc hcl
  ·exact y0u b n c w hc hcl
 ·rw[z8J,if_neg h];exact j8u b.f0 b.f1 b.f2 b.f3 b.bo b.wa b.bu d n w h
theorem q6e(b:Bk)(n:Int)(w:World):Calls prog 110 #[.agg #[.int .i64 b.f0,.int .i64 b.f1,.int .i64 b.f2,.int .i64 b.f3,.int .i64 b.bo,.int .i64 b.wa,.int .i64 b.bu],.int .i64 n] w fun e w'=>e=.returned (.tuple #[.agg #[.int .i64 (z0W b n).1.f0,.int .i64 (z0W b n).1.f1,.int .i64 (z0W b n).1.f2,.int .i64 (z0W b n).1.f3,.int .i64 (z0W b n).1.bo,.int .i64 (z0W b n).1.wa,.int .i64 (z0W b n).1.bu],.int .i64 (z0W b n).2])/\Below w.heap.size w w':=
 q2Z b.f0 b.f1 b.f2 b.f3 b.bo b.wa b.bu n (mv b 4 5 n).1.f0 (mv b 4 5 n).1.f1 (mv b 4 5 n).1.f2 (mv b 4 5 n).1.f3 (mv b 4 5 n).1.bo (mv b 4 5 n).1.wa (mv b 4 5 n).1.bu (mv b 4 5 n).2 w (y0H b n)
theorem j3E(b:Bk)(x y:Int)(w:World):Calls prog 156 #[.agg #[.int .i64 b.f0,.int .i64 b.f1,.int .i64 b.f2,.int .i64 b.f3,.int .i64 b.bo,.int .i64 b.wa,.int .i64 b.bu],.int .i64 x,.int .i64 y] w fun e w'=>e=.returned (.tuple #[.agg #[.int .i64 (z2U b x y).1.f0,.int .i64 (z2U b x y).1.f1,.int .i64 (z2U b x y).1.f2,.int .i64 (z2U b x y).1.f3,.int .i64 (z2U b x y).1.bo,.int .i64 (z2U b x y).1.wa,.int .i64 (z2U b x y).1.bu],.int .i64 (z2U b x y).2])/\Below w.heap.size w w':=by
 refine j0A b.f0 b.f1 b.f2 b.f3 b.bo b.wa b.bu x y (mv b 4 6 x).1.f0 (mv b 4 6 x).1.f1 (mv b 4 6 x).1.f2 (mv b 4 6 x).1.f3 (mv b 4 6 x).1.bo (mv b 4 6 x).1.wa (mv b 4 6 x).1.bu (mv b 4 6 x).2 (mv (mv b 4 6 x).1 5 6 y).1.f0 (mv (mv b 4 6 x).1 5 6 y).1.f1 (mv (mv b 4 6 x).1 5 6 y).1.f2 (mv (mv b 4 6 x).1 5 6 y).1.f3 (mv (mv b 4 6 x).1 5 6 y).1.bo (mv (mv b 4 6 x).1 5 6 y).1.wa (mv (mv b 4 6 x).1 5 6 y).1.bu (mv (mv b 4 6 x).1 5 6 y).2 (z2U b x y).1.f0 (z2U b x y).1.f1 (z2U b x y).1.f2 (z2U b x y).1.f3 (z2U b x y).1.bo (z2U b x y).1.wa (z2U b x y).1.bu (z2U b x y).2 w ?_ (y0K b x) (y0R (mv b 4 6 x).1 y);unfold z2U
 by_cases h1:(mv b 4 6 x).2=0
 ·by_cases h2:(mv (mv b 4 6 x).1 5 6 y).2=0
  ·rw[if_pos h1,if_pos h2];exact .inr (.inr ⟨h1,h2,rfl,rfl,rfl,rfl,rfl,rfl,rfl,rfl⟩)
  ·rw[if_pos h1,if_neg h2];exact .inr (.inl ⟨h1,h2,rfl,rfl,rfl,rfl,rfl,rfl,rfl,rfl⟩)
 ·rw[if_neg h1];exact .inl ⟨h1,rfl,rfl,rfl,rfl,rfl,rfl,rfl,rfl⟩
end
section
open Go.RowKit
theorem q1p{s:St}{d v n:Int}(h:z0U s d v≠0):z0R s d v n=(s,z0U s d v):=if_neg h
theorem z9f{s:St}{d v n:Int}(h:z0U s d v=0)(h1:(s.V v.toNat).dead=true):z0R s d v n=(s,15):=by rw[z0R,if_pos h,if_pos h1]
theorem z7W{s:St}{d v n:Int}(h:z0U s d v=0)(h1:(s.V v.toNat).dead=false)(h2:(decide (0<n) && inA n)=false):z0R s d v n=(s,2):=by rw[z0R,if_pos h,if_neg (by simp[h1]),if_neg (by simp[h2])]
theorem q1J{s:St}{d v n:Int}(h:z0U s d v=0)(h1:(s.V v.toNat).dead=false)(h2:(decide (0<n) && inA n)=true)(h3:shE (s.V v.toNat) n≠0):z0R s d v n=(s,shE (s.V v.toNat) n):=by rw[z0R,if_pos h,if_neg (by simp[h1]),if_pos h2,if_neg h3]
theorem z9r{s:St}{d v n:Int}(h:z0U s d v=0)(h1:(s.V v.toNat).dead=false)(h2:(decide (0<n) && inA n)=true)(h3:shE (s.V v.toNat) n=0)(h4:(z2B s.b d n).2≠0):z0R s d v n=(s,(z2B s.b d n).2):=by rw[z0R,if_pos h,if_neg (by simp[h1]),if_pos h2,if_pos h3,if_neg h4]
theorem q3o{s:St}{d v n:Int}(h:z0U s d v=0)(h1:(s.V v.toNat).dead=false)(h2:(decide (0<n) && inA n)=true)(h3:shE (s.V v.toNat) n=0)(h4:(z2B s.b d n).2=0):z0R s d v n=(q3u { s with b:=(z2B s.b d n).1 } d.toNat v.toNat n (shN (s.V v.toNat) n),0):=by rw[z0R,if_pos h,if_neg (by simp[h1]),if_pos h2,if_pos h3,if_pos h4]
theorem z9X{s:St}{d v:Int}(h:z0U s d v=0):z0i s=true/\(0<=v/\v<6)/\(0<=d/\d<4):=by
 unfold z0U z6x at h
 repeat' split at h
 all_goals first | (simp_all [z3t,z5w];done) | omega
theorem z4A{s:St}(h:z0i s=true)(k:Nat)(hk:k<6):vOk (s.V k)=true/\z3A s.S k 4=true:=by
 unfold z0i at h;simp only[Bool.and_eq_true]at h;have:=q3I h.1.2 hk;unfold j4E q6I at this;simp only[Bool.and_eq_true]at this;exact⟨this.1,this.2.1⟩
theorem z6X{S:Nat->Nat->Int}{v d:Nat}(h:z3A S v 4=true)(hd:d<4):inA (S d v)=true:=by
 simp only[z3A,Bool.and_eq_true]at h
 rcases (show d=0∨d=1∨d=2∨d=3 by omega) with rfl | rfl | rfl | rfl
 ·exact h.1.1.1.2
 ·exact h.1.1.2
 ·exact h.1.2
 ·exact h.2
theorem j9o(s:St)(sl:Value)(x:Int):(stC s sl).setIfInBounds 0 (.int .i64 x)=stC { s with b:={ s.b with f0:=x } } sl:=rfl
theorem j8m(s:St)(sl:Value)(x:Int):(stC s sl).setIfInBounds 1 (.int .i64 x)=stC { s with b:={ s.b with f1:=x } } sl:=rfl
theorem j9T(s:St)(sl:Value)(x:Int):(stC s sl).setIfInBounds 2 (.int .i64 x)=stC { s with b:={ s.b with f2:=x } } sl:=rfl
theorem j8F(s:St)(sl:Value)(x:Int):(stC s sl).setIfInBounds 3 (.int .i64 x)=stC { s with b:={ s.b with f3:=x } } sl:=rfl
theorem j8Z(s:St)(sl:Value)(x:Int):(stC s sl).setIfInBounds 4 (.int .i64 x)=stC { s with b:={ s.b with bo:=x } } sl:=rfl
theorem j8t(s:St)(sl:Value)(x:Int):(stC s sl).setIfInBounds 5 (.int .i64 x)=stC { s with b:={ s.b with wa:=x } } sl:=rfl
theorem j8c(s:St)(sl:Value)(x:Int):(stC s sl).setIfInBounds 6 (.int .i64 x)=stC { s with b:={ s.b with bu:=x } } sl:=rfl
def z6y(w:World)(b:Nat)(x:Bk):World:=((((((w.setCell ⟨b,0,none⟩ (.int .i64 x.f0)).setCell ⟨b,1,none⟩ (.int .i64 x.f1)).setCell ⟨b,2,none⟩ (.int .i64 x.f2)).setCell ⟨b,3,none⟩ (.int .i64 x.f3)).setCell ⟨b,4,none⟩ (.int .i64 x.bo)).setCell ⟨b,5,none⟩ (.int .i64 x.wa)).setCell ⟨b,6,none⟩ (.int .i64 x.bu)
theorem SAt.z6y{w:World}{b c:Nat}{cs:Array Value}(h:SAt w c cs)(hc:c≠b)(x:Bk):SAt (Go.Proofs.YtmopekkhmhhcaaaGreat.z6y w b x) c cs:=((((((h.other hc _).other hc _).other hc _).other hc _).other hc _).other hc _).other hc _
theorem q5p{B b:Nat}{w w':World}(h:Below B w w')(hB:B<=b)(x:Bk):Below B w (z6y w' b x):=((((((h.setCell hB _).setCell hB _).setCell hB _).setCell hB _).setCell hB _).setCell hB _).setCell hB _
theorem z7r{w:World}{b:Nat}{s:St}{sl:Value}(h:SAt w b (stC s sl))(x:Bk):SAt (z6y w b x) b (stC { s with b:=x } sl):=by
 have h0:=h.set 0 (.int .i64 x.f0);rw[j9o]at h0;have h1:=h0.set 1 (.int .i64 x.f1);rw[j8m]at h1;have h2:=h1.set 2 (.int .i64 x.f2);rw[j9T]at h2;have h3:=h2.set 3 (.int .i64 x.f3);rw[j8F]at h3;have h4:=h3.set 4 (.int .i64 x.bo);rw[j8Z]at h4;have h5:=h4.set 5 (.int .i64 x.wa);rw[j8t]at h5;have h6:=h5.set 6 (.int .i64 x.bu);rw[j8c]at h6;exact h6
theorem j0W(x:Vd){n:Int}(hn:n<=1125899906842624):shN x n<=1125899906842624/\(0<=n->0<=shN x n):=by
 have:=z4D n x.sh x.tok;unfold shN
 split
 ·omega
 ·split
  ·omega
  ·split <;> omega
theorem z5A{s:St}{d v:Nat}(hg:z0i s=true)(hd:d<4)(hv:v<6):z0U s d v=0:=by
 unfold z0U z6x;rw[hg,z3t.2 (show (0:Int)<=v/\(v:Int)<6 by omega),z5w.2 (show (0:Int)<=d/\(d:Int)<4 by omega)]
 rfl
section
variable {f:Func} {w w1:World} {s:St} {ao:Option Addr} {n c:Nat}
end
theorem j3C(s:St)(ao:Option Addr)(sb so c:Nat)(d v n:Int)(w:World)(hW:z2A w ao sb so s.W)(r:St×Int)(h0:z0U s d v≠0)(hr:r=(s,z0U s d v)) :
  Calls prog 75 #[.agg (stC s (.slice ao s.W.length c)),.int .i64 d,.int .i64 v,.int .i64 n] w fun e w'=>e=.returned (.tuple #[.agg (stC r.1 (.slice ao s.W.length c)),.int .i64 r.2])/\Below w.heap.size w w':=by
 have SS:=(SAt.new w (stC s (.slice ao s.W.length c))).alloc (.cells Z63 43);have RR:=SAt.new2 w (.cells (stC s (.slice ao s.W.length c)) 43) Z63;have HB:Hid (Below w.heap.size w ((w.alloc (.cells (stC s (.slice ao s.W.length c)) 43)).alloc (.cells Z63 43))):=(znw w _).alloc (by simp) _
 have HW:=hide hW;have HR:=hide hr;clear hW hr
 go_enter func75,ntmps75
 go_upto_region 1 with fail
 change Code.wp prog _ _ _ ((w.alloc (.cells (stC s (.slice ao s.W.length c)) 43)).alloc (.cells Z63 43));generalize (w.alloc (.cells (stC s (.slice ao s.W.length c)) 43)).alloc (.cells Z63 43)=w0 at *
 go_upto_region 2 with (go_at_call 104;refine (z2C s ao sb so c w.heap.size d v _ SS (by exact HW.out.over HB.out)).mono ?_;rintro e w1⟨rfl,h1⟩)
 have HB1:Hid (Below w.heap.size w w1):=zbt HB.out h1;have S1:=SS.later h1 SS.lt;have R1:=RR.later h1 RR.lt;clear SS RR h1 HB
 go_upto_region 3 with fail
 apply wp_region_lit;refine wpList_load_mid rfl 43 _ rfl _ 0 rfl _ _ S1.range underlying43 rfl (by rw[z0y];rfl) ?_
 refine z1R rfl _ rfl ?_;refine wpList_store_mid rfl 43 _ _ rfl _ 0 (stC s (.slice ao s.W.length c)) rfl rfl (R1.there 0 _ (by rw[z0s,z0g];omega)) (by rw[z0y];rfl) (z0C _ _ _ _) ?_
 go_wp2;exact z0M results75 R1 rfl HB1.out (by omega) s _ _ r HR.out _ rfl rfl rfl
theorem q8B(s:St)(ao:Option Addr)(sb so c d v:Nat)(n:Int)(w:World)(hW:z2A w ao sb so s.W)(r:St×Int)(hg:z0i s=true)(hd:d<4)(hv:v<6)(B:Bk)(er:Int)
  (hBond:∀ w:World,Calls prog 107 #[.agg #[.int .i64 s.b.f0,.int .i64 s.b.f1,.int .i64 s.b.f2,.int .i64 s.b.f3,.int .i64 s.b.bo,.int .i64 s.b.wa,.int .i64 s.b.bu],.int .i64 (d:Int),.int .i64 n] w fun e w'=>e=.returned (.tuple #[.agg #[.int .i64 B.f0,.int .i64 B.f1,.int .i64 B.f2,.int .i64 B.f3,.int .i64 B.bo,.int .i64 B.wa,.int .i64 B.bu],.int .i64 er])/\Below w.heap.size w w')
  (h1:(s.V v).dead=true->r=(s,15)) (h2:(s.V v).dead=false->(decide (0<n) && inA n)=false->r=(s,2))
  (h3:(s.V v).dead=false->(decide (0<n) && inA n)=true->shE (s.V v) n≠0->r=(s,shE (s.V v) n))
  (h4:(s.V v).dead=false->(decide (0<n) && inA n)=true->shE (s.V v) n=0->er≠0->r=(s,er))
  (h5:(s.V v).dead=false->(decide (0<n) && inA n)=true->shE (s.V v) n=0->er=0->r=(q3u { s with b:=B } d v n (shN (s.V v) n),0)) :
  Calls prog 75 #[.agg (stC s (.slice ao s.W.length c)),.int .i64 (d:Int),.int .i64 (v:Int),.int .i64 n] w fun e w'=>e=.returned (.tuple #[.agg (stC r.1 (.slice ao s.W.length c)),.int .i64 r.2])/\Below w.heap.size w w':=by
 have SS:=(SAt.new w (stC s (.slice ao s.W.length c))).alloc (.cells Z63 43);have RR:=SAt.new2 w (.cells (stC s (.slice ao s.W.length c)) 43) Z63;have HB:Hid (Below w.heap.size w ((w.alloc (.cells (stC s (.slice ao s.W.length c)) 43)).alloc (.cells Z63 43))):=(znw w _).alloc (by simp) _
 have HW:=hide hW;have H1:=hide h1;have H2:=hide h2;have H3:=hide h3;have H4:=hide h4;have H5:=hide h5;obtain⟨hvo,hps⟩:=z4A hg v hv;have hS:=z9z n;have hRf:=z5A hg hd hv;have hd':(d:Int)<4:=by omega
 have hv':(v:Int)<6:=by omega
 have hd0:(0:Int)<=(d:Int):=by omega
 have hv0:(0:Int)<=(v:Int):=by omega
 have hSF:=fun w b o (hn:n<=1125899906842624)=>z9Q b o (s.V v) n w hn hvo;have hRe:=fun w h=>z2C s ao sb so c w.heap.size d v w h;clear hW h1 h2 h3 h4 h5
 go_enter func75,ntmps75
 go_upto_region 1 with fail
 change Code.wp prog _ _ _ ((w.alloc (.cells (stC s (.slice ao s.W.length c)) 43)).alloc (.cells Z63 43));generalize (w.alloc (.cells (stC s (.slice ao s.W.length c)) 43)).alloc (.cells Z63 43)=w0 at *
 go_upto_region 2 with (go_at_call 104;refine (z2C s ao sb so c w.heap.size d v _ SS (by exact HW.out.over HB.out)).mono ?_;rintro e w1⟨rfl,h1⟩)
 have HB1:Hid (Below w.heap.size w w1):=zbt HB.out h1;have S1:=SS.later h1 SS.lt;have R1:=RR.later h1 RR.lt;obtain⟨x0,x1,x2,x3,x4,x5,x6,x7,x8⟩:=z0t S1;obtain⟨c0,c1,c2,c3,c4⟩:=S1.val v hv;have hz1:w.heap.size+1<w1.heap.size:=R1.lt;have HT:Hid ((decide (0<n) && inA n)=true->0<n/\n<=1125899906842624):=fun h=>by simp only[Bool.and_eq_true,decide_eq_true_eq,z0D]at h;omega
 generalize (decide (0<n) && inA n)=t at *;clear SS RR h1 HB x7 x8 hRe c2 c3;generalize hdd:(s.V v).dead=dd at *;clear hdd
 go_upto_region 15 with (first
  | (go_at_call 105;refine (hS _).mono ?_;rintro e w2⟨rfl,rfl⟩)
  | (go_at_call 106;refine (hSF _ _ _ (by exact (HT.out (by simpa using ‹(!t)=false›)).2) c0 c1).mono ?_;rintro e w2⟨rfl,h2⟩;have HB2:Hid (Below w.heap.size w w2):=HB1.out.trans (h2.mono (by omega));have S2:=S1.later h2 S1.lt;have R2:=R1.later h2 R1.lt;clear x0 x1 x2 x3 x4 x5 x6;obtain⟨x0,x1,x2,x3,x4,x5,x6,x7,x8⟩:=z0t S2;have hz2:=R2.lt;clear h2 x7 x8)
  | (go_at_call 107;refine (hBond _).mono ?_;rintro e w3⟨rfl,h3⟩;have HB3:Hid (Below w.heap.size w w3):=HB2.out.trans (h3.mono (by omega));have S3:=S2.later h3 S2.lt;have R3:=R2.later h3 R2.lt;have hz3:w.heap.size+1<w3.heap.size:=R3.lt;have S4:=S3.alloc (.cells #[.int .i64 B.f0,.int .i64 B.f1,.int .i64 B.f2,.int .i64 B.f3,.int .i64 B.bo,.int .i64 B.wa,.int .i64 B.bu] 35);have R4:=R3.alloc (.cells #[.int .i64 B.f0,.int .i64 B.f1,.int .i64 B.f2,.int .i64 B.f3,.int .i64 B.bo,.int .i64 B.wa,.int .i64 B.bu] 35);have HB4:Hid (Below w.heap.size w (w3.alloc (.cells #[.int .i64 B.f0,.int .i64 B.f1,.int .i64 B.f2,.int .i64 B.f3,.int .i64 B.bo,.int .i64 B.wa,.int .i64 B.bu] 35))):=HB3.out.alloc (by omega) _;clear h3 x0 x1 x2 x3 x4 x5 x6 S3 R3)
  | ((fail_if_success (go_not_at_region 6));apply wp_region_lit;refine wpList_load_mid rfl 43 _ rfl _ 0 rfl _ _ S1.range underlying43 rfl (by rw[z0y];rfl) ?_;refine wpList_store_mid rfl 43 _ _ rfl _ 0 (stC s (.slice ao s.W.length c)) rfl rfl (R1.there 0 _ (by rw[z0s,z0g];omega)) (by rw[z0y];rfl) (z0C _ _ _ _) ?_)
  | ((fail_if_success (go_not_at_region 8));apply wp_region_lit;refine wpList_load_mid rfl 43 _ rfl _ 0 rfl _ _ S1.range underlying43 rfl (by rw[z0y];rfl) ?_;refine wpList_store_mid rfl 43 _ _ rfl _ 0 (stC s (.slice ao s.W.length c)) rfl rfl (R1.there 0 _ (by rw[z0s,z0g];omega)) (by rw[z0y];rfl) (z0C _ _ _ _) ?_)
  | ((fail_if_success (go_not_at_region 11));apply wp_region_lit;refine wpList_load_mid rfl 43 _ rfl _ 0 rfl _ _ S2.range underlying43 rfl (by rw[z0y];rfl) ?_;refine z1R rfl _ rfl ?_;refine wpList_store_mid rfl 43 _ _ rfl _ 0 (stC s (.slice ao s.W.length c)) rfl rfl (R2.there 0 _ (by rw[z0s,z0g];omega)) (by rw[z0y];rfl) (z0C _ _ _ _) ?_)
  | ((fail_if_success (go_not_at_region 14));apply wp_region_lit;refine wpList_load_mid rfl 43 _ rfl _ 0 rfl _ _ S4.range underlying43 rfl (by rw[z0y];rfl) ?_;refine z1R rfl _ rfl ?_;refine wpList_store_mid rfl 43 _ _ rfl _ 0 (stC s (.slice ao s.W.length c)) rfl rfl (R4.there 0 _ (by rw[z0s,z0g];omega)) (by rw[z0y];rfl) (z0C _ _ _ _) ?_))
 ·exact z0M results75 R1 rfl HB1.out (by omega) s _ _ r (H1.out ‹dd=true›) _ rfl rfl rfl
 ·exact z0M results75 R1 rfl HB1.out (by omega) s _ _ r (H2.out ‹dd=false› (by simpa using ‹(!t)=true›)) _ rfl rfl rfl
 ·exact z0M results75 R2 rfl HB2.out (by omega) s _ _ r (H3.out ‹dd=false› (by simpa using ‹(!t)=false›) (by simpa using ‹(shE (s.V v) n != 0)=true›)) _ rfl rfl rfl
 ·exact z0M results75 R4 rfl HB4.out (by omega) s _ _ r (H4.out ‹dd=false› (by simpa using ‹(!t)=false›) (by simpa using ‹(shE (s.V v) n != 0)=false›) (by simpa using ‹(er != 0)=true›)) _ rfl rfl rfl
 ·have HR:Hid (r=(q3u { s with b:=B } d v n (shN (s.V v) n),0)):=H5.out ‹dd=false› (by simpa using ‹(!t)=false›) (by simpa using ‹(shE (s.V v) n != 0)=false›) (by simpa using ‹(er != 0)=false›)
  have hn:=HT.out (by simpa using ‹(!t)=false›)
  obtain⟨k1,k2,k3⟩:=z2s hvo;have k4:=z6X hps hd;rw[z0D]at k1 k2 k4;have k5:=j0W (s.V v) hn.2;obtain⟨x0,x1,x2,x3,x4,x5,x6,x7,x8⟩:=z0t S4;have f0:=S4.free 0;have f1:=S4.free 1;have f2:=S4.free 2;have f3:=S4.free 3;have f4:=S4.free 4;have f5:=S4.free 5;have f6:=S4.free 6;have hne:w.heap.size≠w3.heap.size:=by omega
  clear H1 H2 H3 H4 H5 HT hBond hSF hS c0 c1 c4 x7 x8 S1 S2 R1 R2 HB1 HB2 hvo hps k3
  go_upto_region 16 with fail
  change Code.wp prog _ _ _ (z6y (w3.alloc (.cells #[.int .i64 B.f0,.int .i64 B.f1,.int .i64 B.f2,.int .i64 B.f3,.int .i64 B.bo,.int .i64 B.wa,.int .i64 B.bu] 35)) w.heap.size B);have S5:=z7r S4 B;have R5:=R4.z6y (b:=w.heap.size) (by omega) B
  have HB5:=hide (q5p HB4.out (Nat.le_refl _) B);generalize z6y (w3.alloc (.cells #[.int .i64 B.f0,.int .i64 B.f1,.int .i64 B.f2,.int .i64 B.f3,.int .i64 B.bo,.int .i64 B.wa,.int .i64 B.bu] 35)) w.heap.size B=w5 at *;have hA:=q3Q { s with b:=B } (.slice ao s.W.length c) w.heap.size d v n (shN (s.V v) n) w5 S5 hd hv (by simp only;omega) (by simp only;omega) (by simp only;omega)
  clear x0 x1 x2 x3 x4 x5 x6 f0 f1 f2 f3 f4 f5 f6 S4 R4 HB3 HB4 S5
  go_upto_region 17 with (go_at_call 108;refine hA.mono ?_;rintro e w6⟨rfl,S6,hbut⟩)
  have R6:=hbut.z1l (by omega) R5
  have HB6:=hide (HB5.out.trans (hbut.below (Nat.le_refl _)));apply wp_region_lit;refine wpList_load_mid rfl 43 _ rfl _ 0 rfl _ _ S6.range underlying43 rfl (by rw[z0y];rfl) ?_
  refine wpList_store_mid rfl 43 _ _ rfl _ 0 (stC (q3u { s with b:=B } d v n (shN (s.V v) n)) (.slice ao s.W.length c)) rfl rfl (R6.there 0 _ (by rw[z0s,z0g];omega)) (by rw[z0y];rfl) (z0C _ _ _ _) ?_
  go_wp2;exact z0M results75 R6 rfl HB6.out (by omega) _ _ _ r HR.out _ rfl rfl rfl
theorem j0j(s:St)(ao:Option Addr)(sb so c:Nat)(d v n:Int)(w:World)(hW:z2A w ao sb so s.W) :
  Calls prog 75 #[.agg (stC s (.slice ao s.W.length c)),.int .i64 d,.int .i64 v,.int .i64 n] w fun e w'=>e=.returned (.tuple #[.agg (stC (z0R s d v n).1 (.slice ao s.W.length c)),.int .i64 (z0R s d v n).2])/\Below w.heap.size w w':=by
 by_cases h:z0U s d v=0
 ·obtain⟨hg,⟨v0,v1⟩,d0,d1⟩:=z9X h;obtain⟨v,rfl⟩:=Int.eq_ofNat_of_zero_le v0;obtain⟨d,rfl⟩:=Int.eq_ofNat_of_zero_le d0;exact q8B s ao sb so c d v n w hW _ hg (by omega) (by omega) _ _ (j1C s.b d n) (z9f h) (z7W h) (q1J h) (z9r h) (q3o h)
 ·exact j3C s ao sb so c d v n w hW _ h (q1p h)
end
section
open Go.RowKit
def j4B(s:St)(d v:Nat)(wo n:Int)(B:Bk)(x:Wt):St:={ q3u { s with b:=B } d v (-wo) (-n) with W:=s.W ++ [x],next:=s.next+1 }
def z0V(s:St)(d v n:Int)(y:Wt):St×Int:=
 if z0U s d v=0 then
  if (decide (0<n) && inA n)=true/\0<=y.hei/\0<=y.due then
   if n<=s.S d.toNat v.toNat then
    if s.W.length<60/\s.next<1125899906842624 then
     if woE (s.V v.toNat) n=0 then
      if (z0W s.b (woN (s.V v.toNat) n)).2=0 then (j4B s d.toNat v.toNat (woN (s.V v.toNat) n) n (z0W s.b (woN (s.V v.toNat) n)).1 { y with num:=s.next,d:=d,v:=v,amt:=woN (s.V v.toNat) n },0)
      else (s,(z0W s.b (woN (s.V v.toNat) n)).2)
     else (s,woE (s.V v.toNat) n)
    else (s,6)
   else (s,7)
  else (s,2)
 else (s,z0U s d v)
def z5W(B sb:Nat)(w:World)(r:St×Int)(e:Ending)(w':World):Prop:=∃ A ab ao C,e=.returned (.tuple #[.agg (stC r.1 (.slice A r.1.W.length C)),.int .i64 r.2])/\r.1.W.length<=C/\z2A w' A ab ao r.1.W/\(0<r.1.W.length->ab<w'.heap.size/\(ab=sb∨B<=ab))/\Below B w w'
theorem z1E{f:Func}{p q:Tmp}(hres:f.results=#[.cell p 43,.tmp q]){B g sb:Nat}{w wq:World}{zs:Array Value}(R:SAt wq g zs)(hz:zs.size=63)(H:Below B w wq)(hB:B<=g)(s':St)(A:Option Addr)(ab ao C:Nat)(er:Int)(r:St×Int)(hr:r=(s',er))(hC:s'.W.length<=C)(hW:z2A wq A ab ao s'.W)(hg:0<s'.W.length->ab≠g)(hq:0<s'.W.length->ab=sb∨B<=ab)(act:Act)
  (h8:act.tmps.getD p undef=.pointer (some ⟨g,0,none⟩)) (h9:act.tmps.getD q undef=.int .i64 er) (hd:act.defers=[]) :
  bodyPost prog f (fun e w'=>z5W B sb w r e w') Exit.ret act (wq.setCells g 0 (stC s' (.slice A s'.W.length C)).toList):=by
 subst hr;have R3:=R.z0H (ds:=stC s' (.slice A s'.W.length C)) (by rw[hz];rfl)
 have hW':=hW.sets hg (stC s' (.slice A s'.W.length C)).toList 0;exact bodyPost_ret (v:=.tuple #[.agg (stC s' (.slice A s'.W.length C)),.int .i64 er]) (z5g hres _ _ g _ _ h8 h9 R3 rfl) hd ⟨A,ab,ao,C,rfl,hC,hW',fun h=>⟨hW'.lt h,hq h⟩,z0b hB _ _ _ H⟩
def YAt(w:World)(y:Nat)(x:Wt):Prop:=w.heap[y]?=some (.cells #[.int .i64 x.num,.int .i64 x.d,.int .i64 x.v,.int .i64 x.amt,.int .i64 x.hei,.int .i64 x.due,.int .i64 x.h0,.int .i64 x.h1] 82)
theorem YAt.later{w w':World}{y B:Nat}{x:Wt}(h:YAt w y x)(hb:Below B w w')(hB:y<B):YAt w' y x:=(hb.block y hB).trans h
theorem YAt.lt{w:World}{y:Nat}{x:Wt}(h:YAt w y x):y<w.heap.size:=(Array.getElem?_eq_some_iff.1 h).1
theorem YAt.cells{w:World}{y:Nat}{x:Wt}(h:YAt w y x):w.cell? ⟨y,0,none⟩=some (.int .i64 x.num)/\w.cell? ⟨y,1,none⟩=some (.int .i64 x.d)/\w.cell? ⟨y,2,none⟩=some (.int .i64 x.v)/\w.cell? ⟨y,3,none⟩=some (.int .i64 x.amt)/\w.cell? ⟨y,4,none⟩=some (.int .i64 x.hei)/\w.cell? ⟨y,5,none⟩=some (.int .i64 x.due)/\w.cell? ⟨y,6,none⟩=some (.int .i64 x.h0)/\w.cell? ⟨y,7,none⟩=some (.int .i64 x.h1):=by
 unfold YAt at h
 simp[World.cell?,h]
theorem SAt.y1b(w:World)(o p:Obj)(cs:Array Value):SAt (((w.alloc o).alloc p).alloc (.cells cs 43)) (w.heap.size+2) cs:=by
 have h:=SAt.new2 (w.alloc o) p cs
 rwa [show (w.alloc o).heap.size+1=w.heap.size+2 by simp]at h
theorem YAt.new(w:World)(o p:Obj)(x:Wt):YAt (((w.alloc o).alloc (.cells #[.int .i64 x.num,.int .i64 x.d,.int .i64 x.v,.int .i64 x.amt,.int .i64 x.hei,.int .i64 x.due,.int .i64 x.h0,.int .i64 x.h1] 82)).alloc p) (w.heap.size+1) x:=by
 have h:YAt ((w.alloc o).alloc (.cells #[.int .i64 x.num,.int .i64 x.d,.int .i64 x.v,.int .i64 x.amt,.int .i64 x.hei,.int .i64 x.due,.int .i64 x.h0,.int .i64 x.h1] 82)) (w.alloc o).heap.size x:=heap_alloc_new _ _;rw[show (w.alloc o).heap.size=w.heap.size+1 by simp]at h
 exact h.later (znw _ _) h.lt
theorem j2q(s:St)(ao:Option Addr)(sb so c:Nat)(d v n:Int)(y:Wt)(w:World)(hc:s.W.length<=c)(hW:z2A w ao sb so s.W)(r:St×Int)(h0:z0U s d v≠0)(hr:r=(s,z0U s d v)) :
  Calls prog 78 #[.agg (stC s (.slice ao s.W.length c)),.int .i64 d,.int .i64 v,.int .i64 n,.agg #[.int .i64 y.num,.int .i64 y.d,.int .i64 y.v,.int .i64 y.amt,.int .i64 y.hei,.int .i64 y.due,.int .i64 y.h0,.int .i64 y.h1]] w fun e w'=>z5W w.heap.size sb w r e w':=by
 have SS:=((SAt.new w (stC s (.slice ao s.W.length c))).alloc (.cells #[.int .i64 y.num,.int .i64 y.d,.int .i64 y.v,.int .i64 y.amt,.int .i64 y.hei,.int .i64 y.due,.int .i64 y.h0,.int .i64 y.h1] 82)).alloc (.cells Z63 43);have RR:=SAt.y1b w (.cells (stC s (.slice ao s.W.length c)) 43) (.cells #[.int .i64 y.num,.int .i64 y.d,.int .i64 y.v,.int .i64 y.amt,.int .i64 y.hei,.int .i64 y.due,.int .i64 y.h0,.int .i64 y.h1] 82) Z63;have HB:Hid (Below w.heap.size w (((w.alloc (.cells (stC s (.slice ao s.W.length c)) 43)).alloc (.cells #[.int .i64 y.num,.int .i64 y.d,.int .i64 y.v,.int .i64 y.amt,.int .i64 y.hei,.int .i64 y.due,.int .i64 y.h0,.int .i64 y.h1] 82)).alloc (.cells Z63 43))):=((znw w _).alloc (by simp) _).alloc (by simp;omega) _
 have HW:=hide hW;have HR:=hide hr;have HC:=hide hc;clear hW hr hc
 go_enter func78,ntmps78
 go_upto_region 1 with fail
 change Code.wp prog _ _ _ (((w.alloc (.cells (stC s (.slice ao s.W.length c)) 43)).alloc (.cells #[.int .i64 y.num,.int .i64 y.d,.int .i64 y.v,.int .i64 y.amt,.int .i64 y.hei,.int .i64 y.due,.int .i64 y.h0,.int .i64 y.h1] 82)).alloc (.cells Z63 43));generalize ((w.alloc (.cells (stC s (.slice ao s.W.length c)) 43)).alloc (.cells #[.int .i64 y.num,.int .i64 y.d,.int .i64 y.v,.int .i64 y.amt,.int .i64 y.hei,.int .i64 y.due,.int .i64 y.h0,.int .i64 y.h1] 82)).alloc (.cells Z63 43)=w0 at *
 go_upto_region 2 with (go_at_call 104;refine (z2C s ao sb so c w.heap.size d v _ SS (by exact HW.out.over HB.out)).mono ?_;rintro e w1⟨rfl,h1⟩)
 have HB1:=hide (zbt HB.out h1);have S1:=SS.later h1 SS.lt;have R1:=RR.later h1 RR.lt;clear SS RR h1 HB
 go_upto_region 3 with fail
 apply wp_region_lit;refine wpList_load_mid rfl 43 _ rfl _ 0 rfl _ _ S1.range underlying43 rfl (by rw[z0y];rfl) ?_
 refine z1R rfl _ rfl ?_;refine wpList_store_mid rfl 43 _ _ rfl _ 0 (stC s (.slice ao s.W.length c)) rfl rfl (R1.there 0 _ (by rw[z0s,z0g];omega)) (by rw[z0y];rfl) (z0C _ _ _ _) ?_
 go_wp2;exact z1E results78 R1 rfl HB1.out (by omega) s ao sb so c _ r HR.out HC.out (HW.out.over HB1.out) (fun h=>by have:=HW.out.lt h;omega) (fun _=>.inl rfl) _ rfl rfl rfl
end
namespace Kc
open Go.RowKit Pv
structure Cs where
 on:Bool
 gone:Bool
 h:Int
 t:Int
 id:Int
 set:List (Int×Int)
 pd:List Pkt
 rp:List (Int×Int)
 fl:Nat->Bool
 out:Ln.Line
 h0:Int
 h1:Int
 h2:Int
 h3:Int
structure CsV where
 set:Value
 pd:Value
 rp:Value
 said:Value
 due:Value
def csC(c:Cs)(v:CsV):Array Value:=#[.bool c.on,.bool c.gone,.int .i64 c.h,.int .i64 c.t,.int .i64 c.id,v.set,v.pd,v.rp,.bool (c.fl 0),.bool (c.fl 1),.bool (c.fl 2),.bool (c.fl 3),.bool (c.fl 4),.bool (c.fl 5),v.said,v.due,.int .i64 c.out.g,.bool c.out.cl,.int .i64 c.h0,.int .i64 c.h1,.int .i64 c.h2,.int .i64 c.h3]
theorem z0p(c:Cs)(v:CsV):(csC c v).size=22:=rfl
def pkL(x:Pkt)(y:Value×Value):List Value:=[.int .i64 x.k,.int .i64 x.i,.int .i64 x.v,.int .i64 x.n,y.1,y.2]
def pdL:List Pkt->List (Value×Value)->List Value
 | x :: q,y :: z=>pkL x y ++ pdL q z
 | _,_=>[]
def z7X(P:Nat->Prop)(w:World)(v:Value)(q:List Pkt):Prop:=
 ∃ z:List (Value×Value),z.length=q.length/\Rep P w v 6 40 (pdL q z)/\∀ (i:Nat) (x:Pkt) (y:Value×Value),q[i]?=some x->z[i]?=some y->Rep P w y.1 2 16 (pwC x.S)/\Rep P w y.2 1 8 (inC x.D)
structure CIn(P:Nat->Prop)(w:World)(c:Cs)(v:CsV):Prop where
 set:Rep P w v.set 2 16 (pwC c.set)
 pd:z7X P w v.pd c.pd
 rp:Rep P w v.rp 2 8 (pwC c.rp)
 said:z0I P w v.said 1 16 (txC c.out.S)
 due:z0I P w v.due 1 8 (inC c.out.D)
theorem z1C:∀ (q:List Pkt) (z:List (Value×Value)),z.length=q.length->(pdL q z).length=q.length * 6
 | [],[],_=>rfl
 | x :: q,y :: z,h=>by
  have:=z1C q z (by simpa using h)
  show (pkL x y ++ pdL q z).length=_
  rw[List.length_append,this,List.length_cons]
  show 6+_=_
  omega
 | [],_ :: _,h=>by simp at h
 | _ :: _,[],h=>by simp at h
theorem q8p:∀ (q:List Pkt) (z:List (Value×Value)) (x:Pkt) (y:Value×Value),z.length=q.length->pdL (q ++ [x]) (z ++ [y])=pdL q z ++ pkL x y
 | [],[],x,y,_=>by simp[pdL]
 | a :: q,b :: z,x,y,h=>by
  show pkL a b ++ pdL (q ++ [x]) (z ++ [y])=(pkL a b ++ pdL q z) ++ _
  rw[q8p q z x y (by simpa using h),List.append_assoc]
 | [],_ :: _,_,_,h=>by simp at h
 | _ :: _,[],_,_,h=>by simp at h
theorem z6m:∀ (q:List Pkt) (z:List (Value×Value)) (i:Nat) (x:Pkt) (y:Value×Value) (j:Nat),q[i]?=some x->z[i]?=some y->j<6->(pdL q z)[i * 6+j]?=(pkL x y)[j]?
 | a :: q,b :: z,0,x,y,j,h1,h2,hj=>by
  simp at h1 h2
  subst h1 h2
  show (pkL a b ++ pdL q z)[0 * 6+j]?=_
  rw[Nat.zero_mul,Nat.zero_add,List.getElem?_append_left (by exact hj)]
 | a :: q,b :: z,i+1,x,y,j,h1,h2,hj=>by
  show (pkL a b ++ pdL q z)[(i+1) * 6+j]?=_
  rw[List.getElem?_append_right (by show 6<=_;omega)]
  rw[show (i+1) * 6+j - (pkL a b).length=i * 6+j by show (i+1) * 6+j - 6=_;omega]
  exact z6m q z i x y j (by simpa using h1) (by simpa using h2) hj
 | [],_,i,_,_,_,h1,_,_=>by simp at h1
 | _ :: _,[],i,_,_,_,_,h2,_=>by simp at h2
section
variable {P P':Nat->Prop} {w w':World}
theorem z7X.nil(P:Nat->Prop)(w:World):z7X P w (.slice none 0 0) []:=⟨[],rfl,Rep.nil _ _ _ _,fun i x y h=>by simp at h⟩
theorem z7X.mono{v:Value}{q:List Pkt}(h:z7X P w v q)(hp:∀ b,b<w.heap.size->P b->P' b):z7X P' w v q:=by
 obtain⟨z,h1,h2,h3⟩:=h;exact⟨z,h1,h2.mono hp,fun i x y hx hy=>⟨(h3 i x y hx hy).1.mono hp,(h3 i x y hx hy).2.mono hp⟩⟩
theorem z7X.keep{v:Value}{q:List Pkt}(h:z7X P w v q)(hk:∀ b,P b->b<w.heap.size->w'.heap[b]?=w.heap[b]?):z7X P w' v q:=by
 obtain⟨z,h1,h2,h3⟩:=h;exact⟨z,h1,h2.keep hk,fun i x y hx hy=>⟨(h3 i x y hx hy).1.keep hk,(h3 i x y hx hy).2.keep hk⟩⟩
theorem z7X.over{v:Value}{q:List Pkt}(h:z7X P w v q)(hb:Below w.heap.size w w'):z7X P w' v q:=h.keep fun b _ hlt=>hb.block b hlt
theorem CIn.mono{c:Cs}{v:CsV}(h:CIn P w c v)(hp:∀ b,b<w.heap.size->P b->P' b):CIn P' w c v:=⟨h.set.mono hp,h.pd.mono hp,h.rp.mono hp,h.said.mono hp,h.due.mono hp⟩
theorem CIn.keep{c:Cs}{v:CsV}(h:CIn P w c v)(hk:∀ b,P b->b<w.heap.size->w'.heap[b]?=w.heap[b]?):CIn P w' c v:=⟨h.set.keep hk,h.pd.keep hk,h.rp.keep hk,h.said.keep hk,h.due.keep hk⟩
theorem CIn.over{c:Cs}{v:CsV}(h:CIn P w c v)(hb:Below w.heap.size w w'):CIn P w' c v:=h.keep fun b _ hlt=>hb.block b hlt
theorem CIn.sets{c:Cs}{v:CsV}(h:CIn P w c v){g:Nat}(hg:¬ P g)(o:Nat)(vs:List Value):CIn P (w.setCells g o vs) c v:=h.keep fun b hb _=>z1k (show b≠g from fun e=>hg (by rw[← e];exact hb)) vs o w
theorem CIn.set1{c:Cs}{v:CsV}(h:CIn P w c v){g:Nat}(hg:¬ P g)(o:Nat)(x:Value):CIn P (w.setCell ⟨g,o,none⟩ x) c v:=h.keep fun b hb _=>Below.heap_setCell w ⟨g,o,none⟩ x b (show b≠g from fun e=>hg (by rw[← e];exact hb))
theorem CIn.z2T{c:Cs}{v:CsV}(h:CIn P w c v)(hb:Below w.heap.size w w')(k:Nat):CIn (New P w k) w' c v:=(h.mono (P':=fun b=>New P w k b/\b<w.heap.size) fun _ hl hp=>⟨.inl ⟨hp,hl⟩,hl⟩).over hb |>.mono fun _ _ h=>h.1
theorem _root_.Go.Proofs.YtmopekkhmhhcaaaGreat.Pv.Alt.cin{g:Nat}{w w':World}(h:Alt g w w'){P:Nat->Prop}(hP:¬ P g){c:Cs}{v:CsV}(hp:CIn P w c v):CIn P w' c v:=hp.keep fun b hb hlt=>h.block b hlt (fun e=>hP (e ▸ hb))
theorem z3q{v:Value}{sz bts:Nat}{cs:List Value}(h:Rep P w v sz bts cs):v.oneCell'=true:=by
 obtain⟨A,n,C,rfl,_⟩:=h;rfl
theorem z7X.slice{v:Value}{q:List Pkt}(h:z7X P w v q):v.oneCell'=true:=by
 obtain⟨z,_,h,_⟩:=h;exact z3q h
theorem z2k{c:Cs}{v:CsV}(h:CIn P w c v):(csC c v).all (·.oneCell')=true:=by
 have h1:=z3q h.set;have h2:=h.pd.slice;have h3:=z3q h.rp;have h4:=h.said.one;have h5:=h.due.one;simp only[csC,Array.all_eq_true_iff_forall_mem];intro x hx;simp only[List.mem_toArray,List.mem_cons,List.not_mem_nil,or_false]at hx
 rcases hx with rfl | rfl | rfl | rfl | rfl | rfl | rfl | rfl | rfl | rfl | rfl | rfl | rfl | rfl | rfl | rfl | rfl | rfl | rfl | rfl | rfl | rfl <;> first | rfl | assumption
end
theorem z3C:(prog.info? 63).map (·.size)=some 22:=by kernel_rfl
def Z22:Array Value:=#[.bool false,.bool false,.int .i64 0,.int .i64 0,.int .i64 0,.slice none 0 0,.slice none 0 0,.slice none 0 0,.bool false,.bool false,.bool false,.bool false,.bool false,.bool false,.slice none 0 0,.slice none 0 0,.int .i64 0,.bool false,.int .i64 0,.int .i64 0,.int .i64 0,.int .i64 0]
theorem z0z:Z22.size=22:=rfl
def z7k(v:Value):Sem Value:=Instr.loadAt 63 v
theorem z1t(v:Value):Instr.loadAt 63 v=z7k v:=rfl
def q3Z(a v:Value):Sem Unit:=Instr.storeAt 63 a v
theorem z1f(a v:Value):Instr.storeAt 63 a v=q3Z a v:=rfl
theorem z3c{w:World}{g:Nat}{cs:Array Value}(h:CAt 63 w g cs)(hs:cs.size=22):(z7k (.pointer (some ⟨g,0,none⟩))).run prog w=.ok (.agg cs) w:=by
 have:=run_loadAt_mid (P:=prog) w g 0 63 cs.toList _ h.range underlying63 rfl (by rw[z3C];simp[hs])
 change (Instr.loadAt 63 _).run prog w=_
 simpa using this
theorem z2o{w:World}{g:Nat}{zs cs:Array Value}(h:CAt 63 w g zs)(hz:zs.size=22)(hs:cs.size=22)(h1:cs.all (·.oneCell')=true):(q3Z (.pointer (some ⟨g,0,none⟩)) (.agg cs)).run prog w=.ok () (w.setCells g 0 cs.toList):=
 run_storeAt_mid (P:=prog) w g 0 63 cs (h.there 0 _ (by rw[hz,hs];omega)) (by rw[z3C,hs]) h1
def j7H(P:Nat->Prop)(w:World)(r:Cs×Int)(e:Ending)(w':World):Prop:=∃ v',e=.returned (.tuple #[.agg (csC r.1 v'),.int .i64 r.2])/\CIn (New P w 2) w' r.1 v'/\Below w.heap.size w w'
theorem q3a{fn:Func}{p q:Tmp}(h:fn.results=#[.cell p 63,.tmp q])(tmps:Array Value)(w:World)(g:Nat)(cs:Array Value)(v:Value)
  (hp:tmps.getD p undef=.pointer (some ⟨g,0,none⟩)) (hq:tmps.getD q undef=v) (hg:CAt 63 w g cs) (hsz:cs.size=22) :
  (results fn tmps).run prog w=.ok (.tuple #[.agg cs,v]) w:=by
 have hp':tmps[p]?.getD undef=.pointer (some ⟨g,0,none⟩):=by simpa using hp
 have hq':tmps[q]?.getD undef=v:=by simpa using hq
 simp[results,h,hp',hq',asAddr,run_loadVar_row w g 63 63 cs (0,0) _ hg underlying63 rfl (by rw[z3C,hsz])]
theorem z6E{f:Func}{t q:Tmp}(hres:f.results=#[.cell t 63,.tmp q]){P:Nat->Prop}{w wq:World}{zs:Array Value}(R:CAt 63 wq (w.heap.size+1) zs)(hz:zs.size=22)(H:Below w.heap.size w wq)(c':Cs)(v':CsV)(er:Int)(r:Cs×Int)(hr:r=(c',er))(hp:CIn (New P w 2) wq c' v')(act:Act)
  (h8:act.tmps.getD t undef=.pointer (some ⟨w.heap.size+1,0,none⟩)) (h9:act.tmps.getD q undef=.int .i64 er) (hd:act.defers=[]) :
  bodyPost prog f (j7H P w r) Exit.ret act (wq.setCells (w.heap.size+1) 0 (csC c' v').toList):=by
 subst hr;have R3:=R.z0H (ds:=csC c' v') (by rw[hz];rfl)
 exact bodyPost_ret (v:=.tuple #[.agg (csC c' v'),.int .i64 er]) (q3a hres _ _ _ _ _ h8 h9 R3 rfl) hd ⟨v',rfl,hp.sets (z3P (by omega)) _ _,z0b (Nat.le_succ _) _ _ _ H⟩
def j7n(P:Nat->Prop)(w:World)(r:Cs)(k:Nat)(e:Ending)(w':World):Prop:=∃ v',e=.returned (.agg (csC r v'))/\CIn (New P w k) w' r v'/\Below w.heap.size w w'
theorem z5u{fn:Func}{p:Tmp}(h:fn.results=#[.cell p 63])(tmps:Array Value)(w:World)(g:Nat)(cs:Array Value)
  (hp:tmps.getD p undef=.pointer (some ⟨g,0,none⟩)) (hg:CAt 63 w g cs) (hsz:cs.size=22) :
  (results fn tmps).run prog w=.ok (.agg cs) w:=by
 have hp':tmps[p]?.getD undef=.pointer (some ⟨g,0,none⟩):=by simpa using hp
 simp[results,h,hp',asAddr,run_loadVar_row w g 63 63 cs (0,0) _ hg underlying63 rfl (by rw[z3C,hsz])]
theorem q2X{f:Func}{t:Tmp}(hres:f.results=#[.cell t 63]){P:Nat->Prop}{w wq:World}{zs:Array Value}{k g:Nat}(R:CAt 63 wq g zs)(hz:zs.size=22)(H:Below w.heap.size w wq)(hgw:w.heap.size<=g)(c':Cs)(v':CsV)(hg:¬ New P w k g)(hp:CIn (New P w k) wq c' v')(act:Act)
  (h8:act.tmps.getD t undef=.pointer (some ⟨g,0,none⟩)) (hd:act.defers=[]) :
  bodyPost prog f (j7n P w c' k) Exit.ret act (wq.setCells g 0 (csC c' v').toList):=by
 have R3:=R.z0H (ds:=csC c' v') (by rw[hz];rfl)
 exact bodyPost_ret (v:=.agg (csC c' v')) (z5u hres _ _ _ _ h8 R3 rfl) hd ⟨v',rfl,hp.sets hg _ _,z0b hgw _ _ _ H⟩
theorem j9N(c:Cs)(v:CsV)(x:Bool):(csC c v).setIfInBounds 0 (.bool x)=csC { c with on:=x } v:=rfl
theorem j2D(c:Cs)(v:CsV)(x:Bool):(csC c v).setIfInBounds 1 (.bool x)=csC { c with gone:=x } v:=rfl
theorem j5X(c:Cs)(v:CsV)(x:Int):(csC c v).setIfInBounds 2 (.int .i64 x)=csC { c with h:=x } v:=rfl
theorem j7l(c:Cs)(v:CsV)(x:Int):(csC c v).setIfInBounds 3 (.int .i64 x)=csC { c with t:=x } v:=rfl
theorem j9C(c:Cs)(v:CsV)(x:Int):(csC c v).setIfInBounds 4 (.int .i64 x)=csC { c with id:=x } v:=rfl
theorem set_set(c:Cs)(v:CsV)(l:List (Int×Int))(x:Value):(csC c v).setIfInBounds 5 x=csC { c with set:=l } { v with set:=x }:=rfl
theorem j3S(c:Cs)(v:CsV)(l:List Pkt)(x:Value):(csC c v).setIfInBounds 6 x=csC { c with pd:=l } { v with pd:=x }:=rfl
theorem q8t(c:Cs)(v:CsV)(l:List (Int×Int))(x:Value):(csC c v).setIfInBounds 7 x=csC { c with rp:=l } { v with rp:=x }:=rfl
def j5y(f:Nat->Bool)(k:Nat)(x:Bool):Nat->Bool:=fun i=>if i=k then x else f i
theorem j4q(c:Cs)(v:CsV){k:Nat}(hk:k<6)(x:Bool):(csC c v).setIfInBounds (8+k) (.bool x)=csC { c with fl:=j5y c.fl k x } v:=by
 rcases (show k=0∨k=1∨k=2∨k=3∨k=4∨k=5 by omega) with rfl | rfl | rfl | rfl | rfl | rfl <;> rfl
theorem q6W(c:Cs)(v:CsV){k:Nat}(hk:k<6):(csC c v)[8+k]?=some (.bool (c.fl k)):=by
 rcases (show k=0∨k=1∨k=2∨k=3∨k=4∨k=5 by omega) with rfl | rfl | rfl | rfl | rfl | rfl <;> rfl
theorem j8H(c:Cs)(v:CsV)(x:Bool):(csC c v).setIfInBounds 17 (.bool x)=csC { c with out:={ c.out with cl:=x } } v:=rfl
end Kc
end Go.Proofs.YtmopekkhmhhcaaaGreat
