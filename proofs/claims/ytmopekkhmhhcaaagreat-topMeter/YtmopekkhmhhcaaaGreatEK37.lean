/- Parts of the proof. -/
import Derived.Test.YtmopekkhmhhcaaaGreatEL
import Derived.Test.YtmopekkhmhhcaaaGreatEK18
import Derived.Laws.Cover3
set_option maxRecDepth 100000
set_option maxHeartbeats 16000000
namespace Go.Proofs.YtmopekkhmhhcaaaGreat
open Go.Proofs.Tryz
section
open Go.RowKit
theorem z1h{w w':World}{b e z n:Nat}{v:Value}{xs:List Value}(h:w.ownsRow b e z v n xs)(hk:∀ k,v.ownBlock=some k->w'.heap[k]?=w.heap[k]?):w'.ownsRow b e z v n xs:=by
 refine ⟨h.1,?_⟩
 rcases h.2 with hn | ⟨g,cap,cur,rfl,hb,hg,rest⟩
 ·exact .inl hn
 ·exact .inr ⟨g,cap,cur,rfl,hb,(hk g rfl).trans hg,rest⟩
def z2f(B:Nat)(w:World)(A:Option Addr)(C:Nat)(W:List Wt):Prop:=w.ownsRow B 82 8 (.slice A W.length C) W.length (wsL W)
theorem z2f.to{B:Nat}{w w':World}{A:Option Addr}{C:Nat}{W:List Wt}(h:z2f B w A C W)(hk:∀ k,B<=k->k<w.heap.size->w'.heap[k]?=w.heap[k]?):z2f B w' A C W:=z1h h fun k hv=>hk k (h.lt k hv).1 (h.lt k hv).2
theorem z2f.over{B:Nat}{w w':World}{A:Option Addr}{C:Nat}{W:List Wt}(h:z2f B w A C W)(hb:Below w.heap.size w w'):z2f B w' A C W:=h.to fun k _ hk=>hb.block k hk
theorem z2f.cap{B:Nat}{w:World}{A:Option Addr}{C:Nat}{W:List Wt}(h:z2f B w A C W):W.length<=C:=by
 rcases h.2 with ⟨hv,hn⟩ | ⟨g,cap,cur,hv,_,_,hc,_⟩
 ·omega
 ·cases hv;exact hc
theorem ap3(B:Nat)(w:World)(A:Option Addr)(C y:Nat)(W:List Wt)(x:Wt)(h:z2f B w A C W)(h60:W.length<=60)(hB:B<=w.heap.size)(hy:∀ j v,(wtL x)[j]?=some v->w.cell? ⟨y,j,none⟩=some v) :
  ∃ g C' w',(Builtin.append_ #[41,41] 41 #[.slice A W.length C,.slice (some ⟨y,0,none⟩) 1 1]).run prog w=.ok (.slice (some ⟨g,0,none⟩) (W.length+1) C') w'/\z2f B w' (some ⟨g,0,none⟩) C' (W ++ [x])/\B<=g/\g<w'.heap.size/\Below B w w'/\(∀ k,k<w.heap.size->some k≠(Value.slice A W.length C).ownBlock->g≠k/\w'.heap[k]?=w.heap[k]?):=by
 obtain ⟨i0,hi,hz0,hz1,hz2⟩:=info_parts q9C;have hL:wsL (W ++ [x])=wsL W ++ wtL x:=by unfold wsL;rw[List.flatMap_append];simp
 obtain ⟨g,cap,w',hr,ho,hg,hat,hlt⟩:=run_append_lies (P:=prog) w 41 41 B 82 i0 _ 8 64 underlying41 hi hz0 hz1 hz2 rfl (by omega) (.slice A W.length C) W.length (wsL W) h ⟨y,0,none⟩ 1 1 (wtL x) rfl (fun j v hv=>by rw[Addr.add_lit,Nat.zero_add];exact hy j v hv) (by intro u hu;simp[wtL]at hu;rcases hu with rfl | rfl | rfl | rfl | rfl | rfl | rfl | rfl <;> rfl) (by omega) (by simp only[maxLen];omega) (by omega) hB _ rfl
 have ho':z2f B w' (some ⟨g,0,none⟩) cap (W ++ [x]):=by
  unfold z2f;rw[hL,List.length_append];exact ho
 refine ⟨g,cap,w',hr,ho',?_,hlt,⟨hg.os,hg.tape,hg.output,hg.size,fun k hk=>hg.block k (by omega) (fun he=>?_)⟩,fun k hk hne=>⟨?_,hg.block k hk hne⟩⟩
 ·exact (ho'.lt g rfl).1
 ·have:=(h.lt k he.symm).1;omega
 ·rcases hat with hat | hat
  ·rintro rfl;exact hne hat.symm
  ·omega
theorem z8O{ops:Array Oper}{rest:List Oper}{o:Oper}{a:Act}{w:World}{Q:Exit->Act->World->Prop}(hg:o.guard=none)(hty:o.type=41)(p q:Operand)
  (hop:o.op=Op.call { callee:=Callee.builtin Builtin.append,args:=#[p,q],argTypes:=#[41,41] }) (B:Nat) (A:Option Addr) (C y:Nat) (W:List Wt) (x:Wt) (hs:a.eval p=.slice A W.length C) (hx:a.eval q=.slice (some ⟨y,0,none⟩) 1 1)
  (h:z2f B w A C W) (h60:W.length<=60) (hB:B<=w.heap.size) (hy:∀ j v,(wtL x)[j]?=some v->w.cell? ⟨y,j,none⟩=some v)
  (hK:∀ g C' w',z2f B w' (some ⟨g,0,none⟩) C' (W ++ [x])/\B<=g/\g<w'.heap.size/\Below B w w'/\(∀ k,k<w.heap.size->some k≠(Value.slice A W.length C).ownBlock->g≠k/\w'.heap[k]?=w.heap[k]?)->wpList prog ops Q rest (a.put o.dst (.slice (some ⟨g,0,none⟩) (W.length+1) C')) w'):wpList prog ops Q (o :: rest) a w:=by
 refine wpList_plain hg fun _ hK'=>?_;unfold Oper.wp;obtain ⟨g,C',w',hr,h1⟩:=ap3 B w A C y W x h h60 hB hy
 simp[execOp,hop,resolve,invoke,builtin,hs,hx,hty,hr,Result.andThen]
 exact hK' _ _ (hK _ _ _ h1)
theorem q3S(f0 f1 f2 f3 bo wa bu n:Int)(w:World)(hg:z1s f0 f1 f2 f3 bo wa bu=true)(hn0:0<=n)(hn1:n<=1125899906842624)(hle:n<=bo) :
  Calls prog 150 #[.agg #[.int .i64 f0,.int .i64 f1,.int .i64 f2,.int .i64 f3,.int .i64 bo,.int .i64 wa,.int .i64 bu],(.func (.func 173) #[] #[]),(.func (.func 174) #[] #[]),.int .i64 n] w fun e w'=>e=.returned (.tuple #[.agg #[.int .i64 f0,.int .i64 f1,.int .i64 f2,.int .i64 f3,.int .i64 (bo - n),.int .i64 (wa+n),.int .i64 bu],.int .i64 0])/\Below w.heap.size w w':=by
 have hG:=z0l f0 f1 f2 f3 bo wa bu;rw[hg]at hG;have hI:=z1m n;rw[decide_eq_true ⟨hn0,hn1⟩]at hI;unfold z1s at hg;obtain ⟨g0,g1,g2,g3,g4,g5,g6,gs⟩:=of_decide_eq_true hg;clear hg;have k1:wrap64 (bo - n)=bo - n:=z0g (by omega) (by omega)
 have k2:wrap64 (wa+n)=wa+n:=z0g (by omega) (by omega)
 clear g0 g1 g2 g3 g4 g5 g6 gs hn0 hn1
 go_enter func150,ntmps150
 go_wp2_with fail
 refine (hG _).mono ?_;rintro e w1 ⟨rfl,hb⟩;obtain ⟨B1,R1,HB⟩:=z1n hb;clear hb;obtain ⟨x0,x1,x2,x3,x4,x5,x6⟩:=B1.cells;have y0:=B1.frees.2.2.2.2.1;have y1:=B1.frees.2.2.2.2.2.1;obtain ⟨u0,u1,u2,u3,u4,u5,u6⟩:=R1.frees;obtain ⟨v0,v1,v2,v3,v4,v5,v6⟩:=R1.cells;have HR1:Hid (BAt w1 (w.heap.size+1) 0 0 0 0 0 0 0):=R1;clear B1 R1
 go_wp2_with (first
  | (go_at_call 147;refine (hI _).mono ?_;rintro e w2 ⟨rfl,rfl⟩)
  | (go_at_call 173;refine (z1o _ _).mono ?_;rintro e w2 ⟨rfl,rfl⟩)
  | (go_at_call 174;refine (z1f _ _).mono ?_;rintro e w2 ⟨rfl,rfl⟩))
 exact z0R ((HR1.out.other (by omega) _).other (by omega) _) ((HB.out.setCell (by simp) _).setCell (by simp) _) f0 f1 f2 f3 (bo - n) (wa+n) bu 0 _ rfl rfl rfl
theorem q3G(f0 f1 f2 f3 bo wa bu n:Int)(w:World)(hg:z1s f0 f1 f2 f3 bo wa bu=true)(hn0:0<=n)(hn1:n<=1125899906842624)(hle:n<=bo) :
  Calls prog 150 #[.agg #[.int .i64 f0,.int .i64 f1,.int .i64 f2,.int .i64 f3,.int .i64 bo,.int .i64 wa,.int .i64 bu],(.func (.func 173) #[] #[]),(.func (.func 195) #[] #[]),.int .i64 n] w fun e w'=>e=.returned (.tuple #[.agg #[.int .i64 f0,.int .i64 f1,.int .i64 f2,.int .i64 f3,.int .i64 (bo - n),.int .i64 wa,.int .i64 (bu+n)],.int .i64 0])/\Below w.heap.size w w':=by
 have hG:=z0l f0 f1 f2 f3 bo wa bu;rw[hg]at hG;have hI:=z1m n;rw[decide_eq_true ⟨hn0,hn1⟩]at hI;unfold z1s at hg;obtain ⟨g0,g1,g2,g3,g4,g5,g6,gs⟩:=of_decide_eq_true hg;clear hg;have k1:wrap64 (bo - n)=bo - n:=z0g (by omega) (by omega)
 have k2:wrap64 (bu+n)=bu+n:=z0g (by omega) (by omega)
 clear g0 g1 g2 g3 g4 g5 g6 gs hn0 hn1
 go_enter func150,ntmps150
 go_wp2_with fail
 refine (hG _).mono ?_;rintro e w1 ⟨rfl,hb⟩;obtain ⟨B1,R1,HB⟩:=z1n hb;clear hb;obtain ⟨x0,x1,x2,x3,x4,x5,x6⟩:=B1.cells;have y0:=B1.frees.2.2.2.2.1;have y1:=B1.frees.2.2.2.2.2.2;obtain ⟨u0,u1,u2,u3,u4,u5,u6⟩:=R1.frees;obtain ⟨v0,v1,v2,v3,v4,v5,v6⟩:=R1.cells;have HR1:Hid (BAt w1 (w.heap.size+1) 0 0 0 0 0 0 0):=R1;clear B1 R1
 go_wp2_with (first
  | (go_at_call 147;refine (hI _).mono ?_;rintro e w2 ⟨rfl,rfl⟩)
  | (go_at_call 173;refine (z1o _ _).mono ?_;rintro e w2 ⟨rfl,rfl⟩)
  | (go_at_call 195;refine (z4y _ _).mono ?_;rintro e w2 ⟨rfl,rfl⟩))
 exact z0R ((HR1.out.other (by omega) _).other (by omega) _) ((HB.out.setCell (by simp) _).setCell (by simp) _) f0 f1 f2 f3 (bo - n) wa (bu+n) 0 _ rfl rfl rfl
theorem q3E(f0 f1 f2 f3 bo wa bu n:Int)(w:World)(hg:z1s f0 f1 f2 f3 bo wa bu=true)(hn0:0<=n)(hn1:n<=1125899906842624)(hle:n<=wa) :
  Calls prog 150 #[.agg #[.int .i64 f0,.int .i64 f1,.int .i64 f2,.int .i64 f3,.int .i64 bo,.int .i64 wa,.int .i64 bu],(.func (.func 174) #[] #[]),(.func (.func 195) #[] #[]),.int .i64 n] w fun e w'=>e=.returned (.tuple #[.agg #[.int .i64 f0,.int .i64 f1,.int .i64 f2,.int .i64 f3,.int .i64 bo,.int .i64 (wa - n),.int .i64 (bu+n)],.int .i64 0])/\Below w.heap.size w w':=by
 have hG:=z0l f0 f1 f2 f3 bo wa bu;rw[hg]at hG;have hI:=z1m n;rw[decide_eq_true ⟨hn0,hn1⟩]at hI;unfold z1s at hg;obtain ⟨g0,g1,g2,g3,g4,g5,g6,gs⟩:=of_decide_eq_true hg;clear hg;have k1:wrap64 (wa - n)=wa - n:=z0g (by omega) (by omega)
 have k2:wrap64 (bu+n)=bu+n:=z0g (by omega) (by omega)
 clear g0 g1 g2 g3 g4 g5 g6 gs hn0 hn1
 go_enter func150,ntmps150
 go_wp2_with fail
 refine (hG _).mono ?_;rintro e w1 ⟨rfl,hb⟩;obtain ⟨B1,R1,HB⟩:=z1n hb;clear hb;obtain ⟨x0,x1,x2,x3,x4,x5,x6⟩:=B1.cells;have y0:=B1.frees.2.2.2.2.2.1;have y1:=B1.frees.2.2.2.2.2.2;obtain ⟨u0,u1,u2,u3,u4,u5,u6⟩:=R1.frees;obtain ⟨v0,v1,v2,v3,v4,v5,v6⟩:=R1.cells;have HR1:Hid (BAt w1 (w.heap.size+1) 0 0 0 0 0 0 0):=R1;clear B1 R1
 go_wp2_with (first
  | (go_at_call 147;refine (hI _).mono ?_;rintro e w2 ⟨rfl,rfl⟩)
  | (go_at_call 174;refine (z1f _ _).mono ?_;rintro e w2 ⟨rfl,rfl⟩)
  | (go_at_call 195;refine (z4y _ _).mono ?_;rintro e w2 ⟨rfl,rfl⟩))
 exact z0R ((HR1.out.other (by omega) _).other (by omega) _) ((HB.out.setCell (by simp) _).setCell (by simp) _) f0 f1 f2 f3 bo (wa - n) (bu+n) 0 _ rfl rfl rfl
theorem z8T{w wq:World}(R:BAt wq (w.heap.size+1) 0 0 0 0 0 0 0)(H:Below w.heap.size w wq)(r0 r1 r2 r3 r4 r5 r6 er:Int)(act:Act)
  (h8:act.tmps.getD 6 undef=.pointer (some ⟨w.heap.size+1,0,none⟩)) (h9:act.tmps.getD 7 undef=.int .i64 er) (hd:act.defers=[]) :
  bodyPost prog f156 (fun e w'=>e=.returned (.tuple #[.agg #[.int .i64 r0,.int .i64 r1,.int .i64 r2,.int .i64 r3,.int .i64 r4,.int .i64 r5,.int .i64 r6],.int .i64 er])/\Below w.heap.size w w') Exit.ret act
   (z6i wq (w.heap.size+1) r0 r1 r2 r3 r4 r5 r6):=by
 have HR:=R.z6i r0 r1 r2 r3 r4 r5 r6;have HW:=z2U (b:=w.heap.size+1) H (by omega) r0 r1 r2 r3 r4 r5 r6
 generalize z6i wq (w.heap.size+1) r0 r1 r2 r3 r4 r5 r6=w9 at *;obtain ⟨u0,u1,u2,u3,u4,u5,u6⟩:=HR.cells;have h8':act.tmps[6]?.getD undef=.pointer (some ⟨w.heap.size+1,0,none⟩):=by simpa using h8
 have h9':act.tmps[7]?.getD undef=.int .i64 er:=by simpa using h9
 exact bodyPost_ret (v:=.tuple #[.agg #[.int .i64 r0,.int .i64 r1,.int .i64 r2,.int .i64 r3,.int .i64 r4,.int .i64 r5,.int .i64 r6],.int .i64 er]) (by simp[results,results156,go_sem,h8',h9',u0,u1,u2,u3,u4,u5,u6]) hd ⟨rfl,HW⟩
theorem z3O{f:Nat}{args:Array Value}{w0 w:World}{b:Nat}{v:Value}{f0 f1 f2 f3 bo wa bu:Int}(h:Calls prog f args w fun e w'=>e=.returned v/\Below w.heap.size w w')
  (hb:b<w0.heap.size) (hS:w.cell? ⟨b,0,none⟩=some (.int .i64 f0)/\w.cell? ⟨b,1,none⟩=some (.int .i64 f1)/\w.cell? ⟨b,2,none⟩=some (.int .i64 f2)/\w.cell? ⟨b,3,none⟩=some (.int .i64 f3)/\w.cell? ⟨b,4,none⟩=some (.int .i64 bo)/\w.cell? ⟨b,5,none⟩=some (.int .i64 wa)/\w.cell? ⟨b,6,none⟩=some (.int .i64 bu)/\Below w0.heap.size w0 w) :
  Calls prog f args w fun e w'=>e=.returned v/\(w'.cell? ⟨b,0,none⟩=some (.int .i64 f0)/\w'.cell? ⟨b,1,none⟩=some (.int .i64 f1)/\w'.cell? ⟨b,2,none⟩=some (.int .i64 f2)/\w'.cell? ⟨b,3,none⟩=some (.int .i64 f3)/\w'.cell? ⟨b,4,none⟩=some (.int .i64 bo)/\w'.cell? ⟨b,5,none⟩=some (.int .i64 wa)/\w'.cell? ⟨b,6,none⟩=some (.int .i64 bu)/\Below w0.heap.size w0 w')/\Below w.heap.size w w':=by
 refine h.mono ?_;rintro e w' ⟨rfl,hb'⟩;obtain ⟨h0,h1,h2,h3,h4,h5,h6,hB⟩:=hS;have k:∀ o,w'.cell? ⟨b,o,none⟩=w.cell? ⟨b,o,none⟩:=fun o=>hb'.cell (Nat.lt_of_lt_of_le hb hB.size);exact ⟨rfl,⟨(k 0).trans h0,(k 1).trans h1,(k 2).trans h2,(k 3).trans h3,(k 4).trans h4,(k 5).trans h5,(k 6).trans h6,hB.trans (hb'.mono hB.size)⟩,hb'⟩
theorem q9v(f0 f1 f2 f3 bo wa bu n m r0 r1 r2 r3 r4 r5 r6 er s0 s1 s2 s3 s4 s5 s6 es t0 t1 t2 t3 t4 t5 t6 et:Int)(w:World)
  (hres:(er≠0/\f0=t0/\f1=t1/\f2=t2/\f3=t3/\bo=t4/\wa=t5/\bu=t6/\er=et)∨(er=0/\es≠0/\f0=t0/\f1=t1/\f2=t2/\f3=t3/\bo=t4/\wa=t5/\bu=t6/\es=et)∨(er=0/\es=0/\s0=t0/\s1=t1/\s2=t2/\s3=t3/\s4=t4/\s5=t5/\s6=t6/\0=et))
  (hm1:∀ w:World,Calls prog 150 #[.agg #[.int .i64 f0,.int .i64 f1,.int .i64 f2,.int .i64 f3,.int .i64 bo,.int .i64 wa,.int .i64 bu],.func (.func 173) #[] #[],.func (.func 195) #[] #[],.int .i64 n] w fun e w'=>e=.returned (.tuple #[.agg #[.int .i64 r0,.int .i64 r1,.int .i64 r2,.int .i64 r3,.int .i64 r4,.int .i64 r5,.int .i64 r6],.int .i64 er])/\Below w.heap.size w w')
  (hm2:∀ w:World,Calls prog 150 #[.agg #[.int .i64 r0,.int .i64 r1,.int .i64 r2,.int .i64 r3,.int .i64 r4,.int .i64 r5,.int .i64 r6],.func (.func 174) #[] #[],.func (.func 195) #[] #[],.int .i64 m] w fun e w'=>e=.returned (.tuple #[.agg #[.int .i64 s0,.int .i64 s1,.int .i64 s2,.int .i64 s3,.int .i64 s4,.int .i64 s5,.int .i64 s6],.int .i64 es])/\Below w.heap.size w w') :
  Calls prog 156 #[.agg #[.int .i64 f0,.int .i64 f1,.int .i64 f2,.int .i64 f3,.int .i64 bo,.int .i64 wa,.int .i64 bu],.int .i64 n,.int .i64 m] w
   fun e w'=>e=.returned (.tuple #[.agg #[.int .i64 t0,.int .i64 t1,.int .i64 t2,.int .i64 t3,.int .i64 t4,.int .i64 t5,.int .i64 t6],.int .i64 et])/\Below w.heap.size w w':=by
 go_enter func156,ntmps156
 go_wp2_with fail
 have R0:BAt ((w.alloc (.cells #[.int .i64 f0,.int .i64 f1,.int .i64 f2,.int .i64 f3,.int .i64 bo,.int .i64 wa,.int .i64 bu] 35)).alloc (.cells #[.int .i64 0,.int .i64 0,.int .i64 0,.int .i64 0,.int .i64 0,.int .i64 0,.int .i64 0] 35)) (w.heap.size+1) 0 0 0 0 0 0 0:=by
  have:=BAt.new (w.alloc (.cells #[.int .i64 f0,.int .i64 f1,.int .i64 f2,.int .i64 f3,.int .i64 bo,.int .i64 wa,.int .i64 bu] 35)) 0 0 0 0 0 0 0
  simpa using this
 have B0:=((BAt.new w f0 f1 f2 f3 bo wa bu).alloc (.cells #[.int .i64 0,.int .i64 0,.int .i64 0,.int .i64 0,.int .i64 0,.int .i64 0,.int .i64 0] 35));have HB:Hid (Below w.heap.size w ((w.alloc (.cells #[.int .i64 f0,.int .i64 f1,.int .i64 f2,.int .i64 f3,.int .i64 bo,.int .i64 wa,.int .i64 bu] 35)).alloc (.cells #[.int .i64 0,.int .i64 0,.int .i64 0,.int .i64 0,.int .i64 0,.int .i64 0,.int .i64 0] 35))):=((znw w _).alloc (by simp) _)
 generalize (w.alloc (.cells #[.int .i64 f0,.int .i64 f1,.int .i64 f2,.int .i64 f3,.int .i64 bo,.int .i64 wa,.int .i64 bu] 35)).alloc (.cells #[.int .i64 0,.int .i64 0,.int .i64 0,.int .i64 0,.int .i64 0,.int .i64 0,.int .i64 0] 35)=w0 at *;obtain ⟨x0,x1,x2,x3,x4,x5,x6⟩:=B0.cells;have hz0:w.heap.size<w0.heap.size:=B0.lt;have hz1:w.heap.size+1<w0.heap.size:=R0.lt
 go_cut [8,9] (fun p e wc=>∃ pb,p=.pointer (some ⟨pb,0,none⟩)/\e=.int .i64 er/\w0.heap.size<=pb/\BAt wc pb r0 r1 r2 r3 r4 r5 r6/\Below w0.heap.size w0 wc)
 case first =>
  clear B0;have hbb:Below w0.heap.size w0 w0.drew:=(Below.refl _ _).drew;have hal:∀ (wx:World) (o:Obj),Below w0.heap.size w0 wx->Below w0.heap.size w0 (wx.alloc o):=fun wx o h=>h.alloc h.size o;have hdr:∀ (wx:World),Below w0.heap.size w0 wx->Below w0.heap.size w0 wx.drew:=fun wx h=>h.drew;have hb0:Below w0.heap.size w0 w0:=Below.refl _ _;have hse:∀ (wx:World) (v0 v1 v2 v3 v4 v5 v6:Int),Below w0.heap.size w0 wx->Below w0.heap.size w0 (((((((wx.setCell ⟨w0.heap.size,0,none⟩ (.int .i64 v0)).setCell ⟨w0.heap.size,1,none⟩ (.int .i64 v1)).setCell ⟨w0.heap.size,2,none⟩ (.int .i64 v2)).setCell ⟨w0.heap.size,3,none⟩ (.int .i64 v3)).setCell ⟨w0.heap.size,4,none⟩ (.int .i64 v4)).setCell ⟨w0.heap.size,5,none⟩ (.int .i64 v5)).setCell ⟨w0.heap.size,6,none⟩ (.int .i64 v6)):=fun wx v0 v1 v2 v3 v4 v5 v6 h=>((((((h.setCell (Nat.le_refl _) _).setCell (Nat.le_refl _) _).setCell (Nat.le_refl _) _).setCell (Nat.le_refl _) _).setCell (Nat.le_refl _) _).setCell (Nat.le_refl _) _).setCell (Nat.le_refl _) _;have hso:∀ (wx:World) (o k:Nat) (v:Value),(wx.setCell ⟨w0.heap.size,o,none⟩ v).cell? ⟨w.heap.size,k,none⟩=wx.cell? ⟨w.heap.size,k,none⟩:=fun wx o k v=>World.cell?_of_block (w:=wx) (Below.heap_setCell _ _ _ _ (by simp;omega))
  go_region_held3 (fun w'=>w'.cell? ⟨w.heap.size,0,none⟩=some (.int .i64 f0)/\w'.cell? ⟨w.heap.size,1,none⟩=some (.int .i64 f1)/\w'.cell? ⟨w.heap.size,2,none⟩=some (.int .i64 f2)/\w'.cell? ⟨w.heap.size,3,none⟩=some (.int .i64 f3)/\w'.cell? ⟨w.heap.size,4,none⟩=some (.int .i64 bo)/\w'.cell? ⟨w.heap.size,5,none⟩=some (.int .i64 wa)/\w'.cell? ⟨w.heap.size,6,none⟩=some (.int .i64 bu)/\Below w0.heap.size w0 w') (go_keep)
   (first
    | (go_at_call 152;refine (z4D _).mono ?_;rintro e w2 ⟨rfl,rfl⟩)
    | (go_at_call 175;refine (z6T _).mono ?_;rintro e w2 ⟨rfl,rfl⟩)
    | (go_at_call 150;refine (z3O (f0:=f0) (f1:=f1) (f2:=f2) (f3:=f3) (bo:=bo) (wa:=wa) (bu:=bu) (hm1 _) hz0 ?_).mono ?_;(simp[*]);rintro e wA ⟨rfl,hA,hZ⟩;have hsA:w0.heap.size<=wA.heap.size:=hA.2.2.2.2.2.2.2.size;have hAB:Below w0.heap.size w0 wA:=hA.2.2.2.2.2.2.2;have hZ':BAt wA w0.heap.size 0 0 0 0 0 0 0:=(hZ.block _ (by simp)).trans (BAt.new w0 0 0 0 0 0 0 0);obtain ⟨u0,u1,u2,u3,u4,u5,u6⟩:=hZ'.frees;obtain ⟨v0,v1,v2,v3,v4,v5,v6⟩:=hZ'.cells;have HZ:Hid (BAt wA w0.heap.size 0 0 0 0 0 0 0):=hZ';clear hZ hZ')
    | (go_at_call 150;refine (z3O (f0:=f0) (f1:=f1) (f2:=f2) (f3:=f3) (bo:=bo) (wa:=wa) (bu:=bu) (hm1 _) hz0 ?_).mono ?_;(simp[*]);rintro e wA ⟨rfl,hA,hZ⟩;have hsA:w0.heap.size<=wA.heap.size:=hA.2.2.2.2.2.2.2.size;have hAB:Below w0.heap.size w0 wA:=hA.2.2.2.2.2.2.2;clear hZ))
  all_goals
   clear hA
   go_wp2_with fail
   go_meet
   case rel=>first | exact ⟨w0.heap.size,rfl,rfl,Nat.le_refl _,HZ.out.z6i r0 r1 r2 r3 r4 r5 r6,hse wA r0 r1 r2 r3 r4 r5 r6 hAB⟩ | exact ⟨wA.heap.size,rfl,rfl,hsA,BAt.new wA r0 r1 r2 r3 r4 r5 r6,hAB.alloc hsA _⟩
 case rest =>
  obtain ⟨pb,rfl,rfl,hpb,BH,hbc⟩:=hcut
  rename World=>wb
  clear x0 x1 x2 x3 x4 x5 x6;have B1:=B0.later hbc hz0;have R1:=R0.later hbc hz1;have HBc:Hid (Below w.heap.size w wb):=HB.out.trans (hbc.mono (Nat.le_of_lt hz0));have hz2:w.heap.size<wb.heap.size:=Nat.lt_of_lt_of_le hz0 hbc.size;have hz3:w.heap.size+1<wb.heap.size:=Nat.lt_of_lt_of_le hz1 hbc.size;clear B0 R0 HB hbc hz0 hz1 hm1;obtain ⟨u0,u1,u2,u3,u4,u5,u6⟩:=R1.frees;obtain ⟨v0,v1,v2,v3,v4,v5,v6⟩:=R1.cells;have HR1:Hid (BAt wb (w.heap.size+1) 0 0 0 0 0 0 0):=R1;clear R1
  by_cases her:er=0
  ·subst her;have hpl:pb<wb.heap.size:=BH.lt;obtain ⟨y0,y1,y2,y3,y4,y5,y6⟩:=BH.cells;clear BH u0 u1 u2 u3 u4 u5 u6 v0 v1 v2 v3 v4 v5 v6
   go_wp2_with fail
   go_cut [10,9] (fun p e wd=>∃ pc,p=.pointer (some ⟨pc,0,none⟩)/\e=.int .i64 es/\wb.heap.size<=pc/\BAt wd pc s0 s1 s2 s3 s4 s5 s6/\Below wb.heap.size wb wd)
   case first =>
    clear B1 HR1 hres HBc hz2 hz3;have hbb:Below wb.heap.size wb wb.drew:=(Below.refl _ _).drew;have hal:∀ (wx:World) (o:Obj),Below wb.heap.size wb wx->Below wb.heap.size wb (wx.alloc o):=fun wx o h=>h.alloc h.size o;have hdr:∀ (wx:World),Below wb.heap.size wb wx->Below wb.heap.size wb wx.drew:=fun wx h=>h.drew;have hb0:Below wb.heap.size wb wb:=Below.refl _ _;have hse:∀ (wx:World) (v0 v1 v2 v3 v4 v5 v6:Int),Below wb.heap.size wb wx->Below wb.heap.size wb (((((((wx.setCell ⟨wb.heap.size,0,none⟩ (.int .i64 v0)).setCell ⟨wb.heap.size,1,none⟩ (.int .i64 v1)).setCell ⟨wb.heap.size,2,none⟩ (.int .i64 v2)).setCell ⟨wb.heap.size,3,none⟩ (.int .i64 v3)).setCell ⟨wb.heap.size,4,none⟩ (.int .i64 v4)).setCell ⟨wb.heap.size,5,none⟩ (.int .i64 v5)).setCell ⟨wb.heap.size,6,none⟩ (.int .i64 v6)):=fun wx v0 v1 v2 v3 v4 v5 v6 h=>((((((h.setCell (Nat.le_refl _) _).setCell (Nat.le_refl _) _).setCell (Nat.le_refl _) _).setCell (Nat.le_refl _) _).setCell (Nat.le_refl _) _).setCell (Nat.le_refl _) _).setCell (Nat.le_refl _) _;have hso:∀ (wx:World) (o k:Nat) (v:Value),(wx.setCell ⟨wb.heap.size,o,none⟩ v).cell? ⟨pb,k,none⟩=wx.cell? ⟨pb,k,none⟩:=fun wx o k v=>World.cell?_of_block (w:=wx) (Below.heap_setCell _ _ _ _ (by simp;omega))
    go_region_held3 (fun w'=>w'.cell? ⟨pb,0,none⟩=some (.int .i64 r0)/\w'.cell? ⟨pb,1,none⟩=some (.int .i64 r1)/\w'.cell? ⟨pb,2,none⟩=some (.int .i64 r2)/\w'.cell? ⟨pb,3,none⟩=some (.int .i64 r3)/\w'.cell? ⟨pb,4,none⟩=some (.int .i64 r4)/\w'.cell? ⟨pb,5,none⟩=some (.int .i64 r5)/\w'.cell? ⟨pb,6,none⟩=some (.int .i64 r6)/\Below wb.heap.size wb w') (go_keep)
     (first
      | (go_at_call 153;refine (z3M _).mono ?_;rintro e w2 ⟨rfl,rfl⟩)
      | (go_at_call 175;refine (z6T _).mono ?_;rintro e w2 ⟨rfl,rfl⟩)
      | (go_at_call 150;refine (z3O (f0:=r0) (f1:=r1) (f2:=r2) (f3:=r3) (bo:=r4) (wa:=r5) (bu:=r6) (hm2 _) hpl ?_).mono ?_;(simp[*]);rintro e wA ⟨rfl,hA,hZ⟩;have hsA:wb.heap.size<=wA.heap.size:=hA.2.2.2.2.2.2.2.size;have hAB:Below wb.heap.size wb wA:=hA.2.2.2.2.2.2.2;have hZ':BAt wA wb.heap.size 0 0 0 0 0 0 0:=(hZ.block _ (by simp)).trans (BAt.new wb 0 0 0 0 0 0 0);obtain ⟨u0,u1,u2,u3,u4,u5,u6⟩:=hZ'.frees;obtain ⟨v0,v1,v2,v3,v4,v5,v6⟩:=hZ'.cells;have HZ:Hid (BAt wA wb.heap.size 0 0 0 0 0 0 0):=hZ';clear hZ hZ')
      | (go_at_call 150;refine (z3O (f0:=r0) (f1:=r1) (f2:=r2) (f3:=r3) (bo:=r4) (wa:=r5) (bu:=r6) (hm2 _) hpl ?_).mono ?_;(simp[*]);rintro e wA ⟨rfl,hA,hZ⟩;have hsA:wb.heap.size<=wA.heap.size:=hA.2.2.2.2.2.2.2.size;have hAB:Below wb.heap.size wb wA:=hA.2.2.2.2.2.2.2;clear hZ))
    all_goals
     clear hA
     go_wp2_with fail
     go_meet
     case rel=>first | exact ⟨wb.heap.size,rfl,rfl,Nat.le_refl _,HZ.out.z6i s0 s1 s2 s3 s4 s5 s6,hse wA s0 s1 s2 s3 s4 s5 s6 hAB⟩ | exact ⟨wA.heap.size,rfl,rfl,hsA,BAt.new wA s0 s1 s2 s3 s4 s5 s6,hAB.alloc hsA _⟩
   case rest =>
    obtain ⟨pc,rfl,rfl,hpc,BH,hbd⟩:=hcut;clear y0 y1 y2 y3 y4 y5 y6;have B2:=B1.later hbd hz2;have R2:=HR1.out.later hbd hz3;have HBd:Hid (Below w.heap.size w wc):=HBc.out.trans (hbd.mono (Nat.le_of_lt hz2));clear HBc hbd HR1 B1;obtain ⟨u0,u1,u2,u3,u4,u5,u6⟩:=R2.frees;obtain ⟨v0,v1,v2,v3,v4,v5,v6⟩:=R2.cells;have HR2:Hid (BAt wc (w.heap.size+1) 0 0 0 0 0 0 0):=R2;clear R2
    rcases hres with ⟨h,_⟩ | ⟨_,h,rfl,rfl,rfl,rfl,rfl,rfl,rfl,rfl⟩ | ⟨_,rfl,rfl,rfl,rfl,rfl,rfl,rfl,rfl,rfl⟩
    ·exact absurd rfl h
    ·have hb:(es != 0)=true:=by simpa using h
     obtain ⟨x0,x1,x2,x3,x4,x5,x6⟩:=B2.cells;clear B2 BH;go_wp2;exact z8T HR2.out HBd.out f0 f1 f2 f3 bo wa bu es _ rfl rfl rfl
    ·obtain ⟨x0,x1,x2,x3,x4,x5,x6⟩:=BH.cells;clear B2 BH;go_wp2;exact z8T HR2.out HBd.out s0 s1 s2 s3 s4 s5 s6 0 _ rfl rfl rfl
  ·have hb:(er != 0)=true:=by simpa using her
   rcases hres with ⟨_,rfl,rfl,rfl,rfl,rfl,rfl,rfl,rfl⟩ | ⟨h,_⟩ | ⟨h,_⟩
   ·obtain ⟨x0,x1,x2,x3,x4,x5,x6⟩:=B1.cells;clear B1 BH;go_wp2;exact z8T HR1.out HBc.out f0 f1 f2 f3 bo wa bu er _ rfl rfl rfl
   ·exact absurd h her
   ·exact absurd h her
theorem j6K(w:World)(a:Option Addr)(n c:Nat):(binOp .eql 41 (.slice a n c) (.slice none 0 0)).run prog w=.ok (.bool a.isNone) w:=by
 simp[binOp,run_equal_slice_nil w 41 82 a n c underlying41]
theorem q6i(c:Nat)(w:World):Calls prog 40 #[.slice none 0 c] w fun e w'=>e=.returned (.slice none 0 0)/\w=w':=by
 have hq:=fun w=>j6K w none 0 c
 go_enter func40,ntmps40
 go_wp2;go_ret;exact ⟨rfl,rfl⟩
theorem j5L(W:List Wt):∀ u∈wsL W,u.oneCell'=true:=by
 intro u hu;obtain ⟨x,_,hx⟩:=List.mem_flatMap.1 hu
 simp[wtL]at hx
 rcases hx with rfl | rfl | rfl | rfl | rfl | rfl | rfl | rfl <;> rfl
theorem j3G(w:World):(w.alloc (.cells #[] 82)).ownsRow w.heap.size 82 8 (.slice (some ⟨w.heap.size,0,none⟩) 0 0) 0 []:=⟨rfl,.inr ⟨w.heap.size,0,#[],rfl,Nat.le_refl _,heap_alloc_new _ _,Nat.le_refl _,Nat.zero_le _,rfl,rfl⟩⟩
theorem q9P(w:World)(a:Addr)(c sb so:Nat)(W:List Wt)(hW:z2n w (some a) sb so W) :
  ∃ A C w',(Builtin.append_ #[41,41] 41 #[.slice (some ⟨w.heap.size,0,none⟩) 0 0,.slice (some a) W.length c]).run prog (w.alloc (.cells #[] 82))=.ok (.slice A W.length C) w'/\z2f w.heap.size w' A C W/\Below w.heap.size w w':=by
 obtain ⟨i0,hi,hz0,hz1,hz2⟩:=info_parts q9C;have hl:=hW.len
 obtain ⟨v',w',hr,ho,hg,-,hat⟩:=run_append_own_at (P:=prog) (w.alloc (.cells #[] 82)) w.heap.size 41 41 82 i0 _ 8 64 underlying41 hi hz0 hz1 hz2 rfl (by omega) _ 0 [] (j3G w) a W.length c (wsL W) (z1x W)
  (fun j u hj=>by
   have h0:0<W.length:=by
    have:=(List.getElem?_eq_some_iff.1 hj).1;rw[z1x]at this;omega
   have ha:=hW.adr h0;cases ha;rw[Addr.add_lit]
   exact q3w (hW.over (znw w _)) j u hj) (j5L W) (by simp only[maxLen];omega) (by omega) (by simp)
 rw[Nat.zero_add,List.nil_append]at ho
 have hv:∃ A C,v'=.slice A W.length C:=by
  rcases ho.2 with ⟨rfl,h0⟩ | ⟨g,cap,cur,rfl,_⟩
  ·rw[h0];exact ⟨none,0,rfl⟩
  ·exact ⟨_,_,rfl⟩
 obtain ⟨A,C,rfl⟩:=hv;refine ⟨A,C,w',hr,ho,?_⟩;have hb:=(Below.refl w.heap.size w).alloc (Nat.le_refl _) (.cells #[] 82);exact ⟨hg.os.trans hb.os,hg.tape.trans hb.tape,hg.output.trans hb.output,Nat.le_trans hb.size hg.size,fun k hk=>(hg.block k (by simp;omega) (by simp[Value.ownBlock];omega)).trans (hb.block k hk)⟩
theorem q7M{ops:Array Oper}{rest:List Oper}{o:Oper}{a:Act}{w:World}{Q:Exit->Act->World->Prop}(hg:o.guard=none)(hty:o.type=41)(p q:Operand)
  (hop:o.op=Op.call { callee:=Callee.builtin Builtin.append,args:=#[p,q],argTypes:=#[41,41] }) (ad:Addr) (c sb so:Nat) (W:List Wt) (hs:a.eval p=.slice (some ⟨w.heap.size,0,none⟩) 0 0) (hx:a.eval q=.slice (some ad) W.length c) (hW:z2n w (some ad) sb so W)
  (hK:∀ A C w',z2f w.heap.size w' A C W/\Below w.heap.size w w'->wpList prog ops Q rest (a.put o.dst (.slice A W.length C)) w'):wpList prog ops Q (o :: rest) a (w.alloc (.cells #[] 82)):=by
 refine wpList_plain hg fun _ hK'=>?_;unfold Oper.wp;obtain ⟨A,C,w',hr,h1⟩:=q9P w ad c sb so W hW
 simp[execOp,hop,resolve,invoke,builtin,hs,hx,hty,hr,Result.andThen]
 exact hK' _ _ (hK _ _ _ h1)
theorem q4W(a:Addr)(W:List Wt)(c sb so:Nat)(w:World)(hW:z2n w (some a) sb so W):Calls prog 40 #[.slice (some a) W.length c] w fun e w'=>∃ A C,e=.returned (.slice A W.length C)/\z2f w.heap.size w' A C W/\Below w.heap.size w w':=by
 have hq:=fun w=>j6K w (some a) W.length c
 go_enter func40,ntmps40
 go_upto_region 3 with fail
 apply wp_region_lit
 iterate 6 go_step
 refine q7M rfl rfl _ _ rfl a c sb so W rfl rfl hW ?_;rintro A C w' ⟨h1,h2⟩;have H1:=hide h1;have H2:=hide h2;clear h1 h2;go_wp2;go_ret;exact ⟨A,C,rfl,H1.out,H2.out⟩
theorem z3B(ao:Option Addr)(W:List Wt)(c sb so:Nat)(w:World)(hW:z2n w ao sb so W):Calls prog 40 #[.slice ao W.length c] w fun e w'=>∃ A C,e=.returned (.slice A W.length C)/\z2f w.heap.size w' A C W/\Below w.heap.size w w':=by
 cases ao with
 | some a=>exact q4W a W c sb so w hW
 | none =>
  have h0:W.length=0:=by
   rcases Nat.eq_zero_or_pos W.length with h0 | h0
   ·exact h0
   ·have:=hW.adr h0;cases this
  obtain rfl:W=[]:=List.length_eq_zero_iff.1 h0;refine (q6i c w).mono ?_;rintro e w' ⟨rfl,rfl⟩;exact ⟨none,0,rfl,⟨rfl,.inl ⟨rfl,rfl⟩⟩,Below.refl _ _⟩
def pwr(x:Vd):Int:=x.tok / 100
def z4E(V:Nat->Vd):Nat->List Pw
 | 0=>[]
 | k+1=>if (decide (0<pwr (V k)) && !(V k).jail)=true then z4E V k ++ [((k:Int),pwr (V k))] else z4E V k
def z6L(V:Nat->Vd):List Pw:=z2t ltV ((z2t ltP (z4E V 6)).take 4)
theorem z4P(V:Nat->Vd):∀ k,(z4E V k).length<=k
 | 0=>by simp[z4E]
 | k+1=>by
  have:=z4P V k;rw[z4E]
  split
  ·simp;omega
  ·omega
theorem z2k(lt:Pw->Pw->Bool)(l:List Pw):(z2t lt l).length=l.length:=z1N _ _ _
theorem z1M.take{w:World}{g:Nat}{l:List Pw}(h:z1M w g l)(n:Nat):z1M w g (l.take n):=by
 obtain ⟨cur,hc,hx⟩:=h;exact ⟨cur,hc,fun i x hi=>hx i x (by rw[List.getElem?_take]at hi;split at hi;exact hi;simp at hi)⟩
theorem q9N(s:St)(sl:Value)(w:World)(hV:∀ k,k<6->inA (s.V k).tok=true) :
  Calls prog 85 #[.agg (stC s sl)] w fun e w'=>∃ v,e=.returned v/\j8V w' w.heap.size v (z6L s.V)/\Below w.heap.size w w':=by
 obtain ⟨i0,hi,hz0,hz1,hz2⟩:=info_parts q8O;have S0:=SAt.new w (stC s sl);have HB0:Hid (Below w.heap.size w (w.alloc (.cells (stC s sl) 43))):=znw w _
 go_enter func85,ntmps85
 go_upto_region 1 with fail
 generalize w.alloc (.cells (stC s sl) 43)=w0 at *;have hz:w.heap.size<w0.heap.size:=S0.lt
 go_wp2_with fail
 go_loopw [3,7] (fun v i wl=>∃ k:Nat,k<=6/\i=.int .i64 (k:Int)/\z5a wl w0.heap.size v (z4E s.V k)/\Hid (Below w0.heap.size w0 wl)) (fun _ i _=>(6 - intOf i).toNat)
 case atStart=>exact ⟨0,by omega,rfl,z5a.nil _ _,Below.refl _ _⟩
 case round =>
  obtain ⟨k,hk,rfl,hown,HB⟩:=hrel;have hsz:w0.heap.size<=wr.heap.size:=HB.out.size
  by_cases hk6:k<6
  ·have S1:=S0.later HB.out hz;obtain ⟨c0,c1,c2,c3,c4⟩:=S1.val k hk6;have hkk:(k:Int)<6:=by omega
   have hta:=z0z.1 (hV k hk6);have HC:Hid (z4E s.V (k+1)=if (decide (0<pwr (s.V k)) && !(s.V k).jail)=true then z4E s.V k ++ [((k:Int),pwr (s.V k))] else z4E s.V k):=rfl;have hlen:=z4P s.V k;have hp:pwr (s.V k)=(s.V k).tok / 100:=rfl;rw[hp]at HC;clear c1 c2 c4 S1 hp;generalize (s.V k).jail=jj at *;generalize (s.V k).tok=tt at *
   go_wp2_with (at_builtin;refine wpList_append_own_at _ rfl _ _ 44 rfl w0.heap.size 68 i0 (.agg #[.int .i64 0,.int .i64 0]) 2 16 underlying44 hi hz0 hz1 hz2 rfl (by decide) _ _ _ rfl (World.ownsRow.alloc hown _) ⟨wr.heap.size,0,none⟩ 1 1 [.int .i64 (k:Int),.int .i64 (tt / 100)] rfl rfl (q2f _ _ _ _) (by intro u hu;simp at hu;rcases hu with rfl | rfl <;> rfl) (by unfold maxLen;omega) (by omega) (by simp;omega) ?_;intro v' w1 hown' hgrow _ hat)
   ·have hb:Below w0.heap.size w0 w1:=z5a.grow hown HB.out hgrow (Nat.le_refl _) hsz;have hc:z4E s.V (k+1)=z4E s.V k ++ [((k:Int),tt / 100)]:=by rw[HC.out,if_pos (by simp_all)]
    refine ⟨⟨k+1,by omega,by go_num,?_,hb⟩,by simp[intOf];omega⟩
    rw[hc];exact z5a.append hown' rfl
   ·have hc:z4E s.V (k+1)=z4E s.V k:=by rw[HC.out,if_neg (by simp_all)]
    exact ⟨⟨k+1,by omega,by go_num,by rw[hc];exact hown,HB.out⟩,by simp[intOf];omega⟩
   ·have hc:z4E s.V (k+1)=z4E s.V k:=by rw[HC.out,if_neg (by simp;intro h;omega)]
    exact ⟨⟨k+1,by omega,by go_num,by rw[hc];exact hown,HB.out⟩,by simp[intOf];omega⟩
  ·obtain rfl:k=6:=by omega
   have HBw:Hid (Below w.heap.size w wr):=HB0.out.trans (HB.out.mono (Nat.le_of_lt hz));have hl6:=z4P s.V 6;have HX:Hid (z6L s.V=z2t ltV ((z2t ltP (z4E s.V 6)).take 4)):=rfl
   rcases hown.row with ⟨rfl,hnil⟩ | ⟨g,cap,rfl,hg,hrow,hcap,hmax⟩
   ·have HX2:Hid (z6L s.V=[]):=by rw[HX.out,hnil];rfl
    clear hnil hown HX S0 hV
    go_wp2_with (go_at_call 117;refine (q4p _ _).mono ?_;rintro e w1 ⟨rfl,rfl⟩)
    go_ret;exact ⟨_,rfl,.inl ⟨rfl,HX2.out⟩,HBw.out⟩
   ·have hP:=j5F g cap (z4E s.V 6) wr hrow (by omega)
    rw[← z2k ltP (z4E s.V 6)]at hl6 hcap hP ⊢;have hL0:=hP;clear hrow hown S0 hV hL0;generalize z2t ltP (z4E s.V 6)=L at *;unfold maxLen at hmax;have hi0:(0:Int)<=(L.length:Int):=by omega
    have hi1:(L.length:Int)<=(cap:Int):=by omega
    by_cases h4:L.length<=4
    ·have h4':(L.length:Int)<=4:=by omega
     have HX2:Hid (z6L s.V=z2t ltV L):=by rw[HX.out,List.take_of_length_le h4];exact rfl
     go_wp2_with (first
      | (go_at_call 117;have _m:=m1;refine (q8B g cap L _ (by exact HR1.out.1) (by omega)).mono ?_;rintro e w2 ⟨rfl,hr2⟩;have HR2:=hide hr2;clear hr2)
      | (go_at_call 117;refine hP.mono ?_;rintro e w1 ⟨rfl,hr1⟩;have HR1:=hide hr1;clear hr1;have m1:True:=trivial))
     go_ret;have hsz1:=HR1.out.2.size;refine ⟨_,rfl,.inr ⟨g,cap,?_,by omega,by rw[HX2.out];exact HR2.out.1,by rw[HX2.out,z2k];exact hcap,by unfold maxLen;exact hmax⟩,?_⟩
     ·rw[HX2.out,z2k];rfl
     ·exact (HBw.out.trans (HR1.out.2.below (B:=w.heap.size) (by omega) (by omega))).trans (HR2.out.2.below (by omega) (by omega))
    ·have h4':4<(L.length:Int):=by omega
     have hl4:(L.take 4).length=4:=by rw[List.length_take];omega
     have hS:=fun w h=>q8B g cap (L.take 4) w h (by omega)
     rw[hl4]at hS;have hc4:(4:Int)<=(cap:Int):=by omega
     go_wp2_with (first
      | (go_at_call 117;have _m:=m1;refine (hS _ (by exact HR1.out.1.take 4)).mono ?_;rintro e w2 ⟨rfl,hr2⟩;have HR2:=hide hr2;clear hr2)
      | (go_at_call 117;refine hP.mono ?_;rintro e w1 ⟨rfl,hr1⟩;have HR1:=hide hr1;clear hr1;have m1:True:=trivial))
     go_ret;have hsz1:=HR1.out.2.size;refine ⟨_,rfl,.inr ⟨g,cap,?_,by omega,by rw[HX.out];exact HR2.out.1,by rw[HX.out,z2k,hl4];omega,by unfold maxLen;exact hmax⟩,?_⟩
     ·rw[HX.out,z2k,hl4];rfl
     ·exact (HBw.out.trans (HR1.out.2.below (B:=w.heap.size) (by omega) (by omega))).trans (HR2.out.2.below (by omega) (by omega))
end
end Go.Proofs.YtmopekkhmhhcaaaGreat
