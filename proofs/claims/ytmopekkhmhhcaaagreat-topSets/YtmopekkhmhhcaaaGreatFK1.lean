/- Parts of the proof. -/
import Derived.Test.YtmopekkhmhhcaaaGreatFL
import Derived.Test.YtmopekkhmhhcaaaGreatFK30
set_option maxRecDepth 100000
set_option maxHeartbeats 16000000
namespace Go.Proofs.YtmopekkhmhhcaaaGreat
open Go.Proofs.Tryz
section
open Go.RowKit
theorem q5b(f0 f1 f2 f3 bo wa bu n:Int)(c:Nat)(w:World)(hc:w.cell? ⟨c,0,none⟩=some (.int .i64 0))(hcl:c<w.heap.size)(hg:z1z f0 f1 f2 f3 bo wa bu=true)(hn0:0<=n)(hn1:n<=1125899906842624)(hle:n<=f0) :
  Calls prog 150 #[.agg #[.int .i64 f0,.int .i64 f1,.int .i64 f2,.int .i64 f3,.int .i64 bo,.int .i64 wa,.int .i64 bu],(.func (.func 172) #[] #[.pointer (some ⟨c,0,none⟩)]),(.func (.func 173) #[] #[]),.int .i64 n] w fun e w'=>e=.returned (.tuple #[.agg #[.int .i64 (f0 - n),.int .i64 f1,.int .i64 f2,.int .i64 f3,.int .i64 (bo+n),.int .i64 wa,.int .i64 bu],.int .i64 0])/\Below w.heap.size w w':=by
 have hG:=z0o f0 f1 f2 f3 bo wa bu;rw[hg]at hG;have hI:=z1u n;rw[decide_eq_true ⟨hn0,hn1⟩]at hI;unfold z1z at hg;obtain⟨g0,g1,g2,g3,g4,g5,g6,gs⟩:=of_decide_eq_true hg;clear hg;have k1:wrap64 (f0 - n)=f0 - n:=z0f (by omega) (by omega)
 have k2:wrap64 (bo+n)=bo+n:=z0f (by omega) (by omega)
 clear g0 g1 g2 g3 g4 g5 g6 gs hn0 hn1
 go_enter func150,ntmps150
 go_wp2_with fail
 refine (hG _).mono ?_;rintro e w1⟨rfl,hb⟩;obtain⟨B1,R1,HB⟩:=z1w hb;clear hb;have hc2:w1.cell? ⟨c,0,none⟩=some (.int .i64 0):=(HB.out.cell hcl).trans hc;skip;clear hc hcl;obtain⟨x0,x1,x2,x3,x4,x5,x6⟩:=B1.cells;have y0:=B1.frees.1;have y1:=B1.frees.2.2.2.2.1;obtain⟨u0,u1,u2,u3,u4,u5,u6⟩:=R1.frees;obtain⟨v0,v1,v2,v3,v4,v5,v6⟩:=R1.cells;have HR1:Hid (BAt w1 (w.heap.size+1) 0 0 0 0 0 0 0):=R1;clear B1 R1
 go_wp2_with (first
  | (go_at_call 147;refine (hI _).mono ?_;rintro e w2⟨rfl,rfl⟩)
  | (go_at_call 172;refine (z1i _ c 0 _ (by exact hc2) (by decide) (by decide)).mono ?_;rintro e w2⟨rfl,nq,rfl⟩)
  | (go_at_call 173;refine (z1v _ _).mono ?_;rintro e w2⟨rfl,rfl⟩))
 exact z0S (wq:=((w1.drewN _).setCell ⟨w.heap.size,0,none⟩ (.int .i64 (f0 - n))).setCell ⟨w.heap.size,4,none⟩ (.int .i64 (bo+n))) ((BAt.other (w:=w1.drewN _) HR1.out (by omega) _).other (by omega) _) (((below_drewN HB.out _).setCell (by simp) _).setCell (by simp) _) (f0 - n) f1 f2 f3 (bo+n) wa bu 0 _ rfl rfl rfl
theorem q5x(f0 f1 f2 f3 bo wa bu n:Int)(c:Nat)(w:World)(hc:w.cell? ⟨c,0,none⟩=some (.int .i64 1))(hcl:c<w.heap.size)(hg:z1z f0 f1 f2 f3 bo wa bu=true)(hn0:0<=n)(hn1:n<=1125899906842624)(hle:n<=f1) :
  Calls prog 150 #[.agg #[.int .i64 f0,.int .i64 f1,.int .i64 f2,.int .i64 f3,.int .i64 bo,.int .i64 wa,.int .i64 bu],(.func (.func 172) #[] #[.pointer (some ⟨c,0,none⟩)]),(.func (.func 173) #[] #[]),.int .i64 n] w fun e w'=>e=.returned (.tuple #[.agg #[.int .i64 f0,.int .i64 (f1 - n),.int .i64 f2,.int .i64 f3,.int .i64 (bo+n),.int .i64 wa,.int .i64 bu],.int .i64 0])/\Below w.heap.size w w':=by
 have hG:=z0o f0 f1 f2 f3 bo wa bu;rw[hg]at hG;have hI:=z1u n;rw[decide_eq_true ⟨hn0,hn1⟩]at hI;unfold z1z at hg;obtain⟨g0,g1,g2,g3,g4,g5,g6,gs⟩:=of_decide_eq_true hg;clear hg;have k1:wrap64 (f1 - n)=f1 - n:=z0f (by omega) (by omega)
 have k2:wrap64 (bo+n)=bo+n:=z0f (by omega) (by omega)
 clear g0 g1 g2 g3 g4 g5 g6 gs hn0 hn1
 go_enter func150,ntmps150
 go_wp2_with fail
 refine (hG _).mono ?_;rintro e w1⟨rfl,hb⟩;obtain⟨B1,R1,HB⟩:=z1w hb;clear hb;have hc2:w1.cell? ⟨c,0,none⟩=some (.int .i64 1):=(HB.out.cell hcl).trans hc;skip;clear hc hcl;obtain⟨x0,x1,x2,x3,x4,x5,x6⟩:=B1.cells;have y0:=B1.frees.2.1;have y1:=B1.frees.2.2.2.2.1;obtain⟨u0,u1,u2,u3,u4,u5,u6⟩:=R1.frees;obtain⟨v0,v1,v2,v3,v4,v5,v6⟩:=R1.cells;have HR1:Hid (BAt w1 (w.heap.size+1) 0 0 0 0 0 0 0):=R1;clear B1 R1
 go_wp2_with (first
  | (go_at_call 147;refine (hI _).mono ?_;rintro e w2⟨rfl,rfl⟩)
  | (go_at_call 172;refine (z1i _ c 1 _ (by exact hc2) (by decide) (by decide)).mono ?_;rintro e w2⟨rfl,nq,rfl⟩)
  | (go_at_call 173;refine (z1v _ _).mono ?_;rintro e w2⟨rfl,rfl⟩))
 exact z0S (wq:=((w1.drewN _).setCell ⟨w.heap.size,1,none⟩ (.int .i64 (f1 - n))).setCell ⟨w.heap.size,4,none⟩ (.int .i64 (bo+n))) ((BAt.other (w:=w1.drewN _) HR1.out (by omega) _).other (by omega) _) (((below_drewN HB.out _).setCell (by simp) _).setCell (by simp) _) f0 (f1 - n) f2 f3 (bo+n) wa bu 0 _ rfl rfl rfl
theorem q6d(f0 f1 f2 f3 bo wa bu n:Int)(c:Nat)(w:World)(hc:w.cell? ⟨c,0,none⟩=some (.int .i64 2))(hcl:c<w.heap.size)(hg:z1z f0 f1 f2 f3 bo wa bu=true)(hn0:0<=n)(hn1:n<=1125899906842624)(hle:n<=f2) :
  Calls prog 150 #[.agg #[.int .i64 f0,.int .i64 f1,.int .i64 f2,.int .i64 f3,.int .i64 bo,.int .i64 wa,.int .i64 bu],(.func (.func 172) #[] #[.pointer (some ⟨c,0,none⟩)]),(.func (.func 173) #[] #[]),.int .i64 n] w fun e w'=>e=.returned (.tuple #[.agg #[.int .i64 f0,.int .i64 f1,.int .i64 (f2 - n),.int .i64 f3,.int .i64 (bo+n),.int .i64 wa,.int .i64 bu],.int .i64 0])/\Below w.heap.size w w':=by
 have hG:=z0o f0 f1 f2 f3 bo wa bu;rw[hg]at hG;have hI:=z1u n;rw[decide_eq_true ⟨hn0,hn1⟩]at hI;unfold z1z at hg;obtain⟨g0,g1,g2,g3,g4,g5,g6,gs⟩:=of_decide_eq_true hg;clear hg;have k1:wrap64 (f2 - n)=f2 - n:=z0f (by omega) (by omega)
 have k2:wrap64 (bo+n)=bo+n:=z0f (by omega) (by omega)
 clear g0 g1 g2 g3 g4 g5 g6 gs hn0 hn1
 go_enter func150,ntmps150
 go_wp2_with fail
 refine (hG _).mono ?_;rintro e w1⟨rfl,hb⟩;obtain⟨B1,R1,HB⟩:=z1w hb;clear hb;have hc2:w1.cell? ⟨c,0,none⟩=some (.int .i64 2):=(HB.out.cell hcl).trans hc;skip;clear hc hcl;obtain⟨x0,x1,x2,x3,x4,x5,x6⟩:=B1.cells;have y0:=B1.frees.2.2.1;have y1:=B1.frees.2.2.2.2.1;obtain⟨u0,u1,u2,u3,u4,u5,u6⟩:=R1.frees;obtain⟨v0,v1,v2,v3,v4,v5,v6⟩:=R1.cells;have HR1:Hid (BAt w1 (w.heap.size+1) 0 0 0 0 0 0 0):=R1;clear B1 R1
 go_wp2_with (first
  | (go_at_call 147;refine (hI _).mono ?_;rintro e w2⟨rfl,rfl⟩)
  | (go_at_call 172;refine (z1i _ c 2 _ (by exact hc2) (by decide) (by decide)).mono ?_;rintro e w2⟨rfl,nq,rfl⟩)
  | (go_at_call 173;refine (z1v _ _).mono ?_;rintro e w2⟨rfl,rfl⟩))
 exact z0S (wq:=((w1.drewN _).setCell ⟨w.heap.size,2,none⟩ (.int .i64 (f2 - n))).setCell ⟨w.heap.size,4,none⟩ (.int .i64 (bo+n))) ((BAt.other (w:=w1.drewN _) HR1.out (by omega) _).other (by omega) _) (((below_drewN HB.out _).setCell (by simp) _).setCell (by simp) _) f0 f1 (f2 - n) f3 (bo+n) wa bu 0 _ rfl rfl rfl
theorem q5L(f0 f1 f2 f3 bo wa bu n:Int)(c:Nat)(w:World)(hc:w.cell? ⟨c,0,none⟩=some (.int .i64 3))(hcl:c<w.heap.size)(hg:z1z f0 f1 f2 f3 bo wa bu=true)(hn0:0<=n)(hn1:n<=1125899906842624)(hle:n<=f3) :
  Calls prog 150 #[.agg #[.int .i64 f0,.int .i64 f1,.int .i64 f2,.int .i64 f3,.int .i64 bo,.int .i64 wa,.int .i64 bu],(.func (.func 172) #[] #[.pointer (some ⟨c,0,none⟩)]),(.func (.func 173) #[] #[]),.int .i64 n] w fun e w'=>e=.returned (.tuple #[.agg #[.int .i64 f0,.int .i64 f1,.int .i64 f2,.int .i64 (f3 - n),.int .i64 (bo+n),.int .i64 wa,.int .i64 bu],.int .i64 0])/\Below w.heap.size w w':=by
 have hG:=z0o f0 f1 f2 f3 bo wa bu;rw[hg]at hG;have hI:=z1u n;rw[decide_eq_true ⟨hn0,hn1⟩]at hI;unfold z1z at hg;obtain⟨g0,g1,g2,g3,g4,g5,g6,gs⟩:=of_decide_eq_true hg;clear hg;have k1:wrap64 (f3 - n)=f3 - n:=z0f (by omega) (by omega)
 have k2:wrap64 (bo+n)=bo+n:=z0f (by omega) (by omega)
 clear g0 g1 g2 g3 g4 g5 g6 gs hn0 hn1
 go_enter func150,ntmps150
 go_wp2_with fail
 refine (hG _).mono ?_;rintro e w1⟨rfl,hb⟩;obtain⟨B1,R1,HB⟩:=z1w hb;clear hb;have hc2:w1.cell? ⟨c,0,none⟩=some (.int .i64 3):=(HB.out.cell hcl).trans hc;skip;clear hc hcl;obtain⟨x0,x1,x2,x3,x4,x5,x6⟩:=B1.cells;have y0:=B1.frees.2.2.2.1;have y1:=B1.frees.2.2.2.2.1;obtain⟨u0,u1,u2,u3,u4,u5,u6⟩:=R1.frees;obtain⟨v0,v1,v2,v3,v4,v5,v6⟩:=R1.cells;have HR1:Hid (BAt w1 (w.heap.size+1) 0 0 0 0 0 0 0):=R1;clear B1 R1
 go_wp2_with (first
  | (go_at_call 147;refine (hI _).mono ?_;rintro e w2⟨rfl,rfl⟩)
  | (go_at_call 172;refine (z1i _ c 3 _ (by exact hc2) (by decide) (by decide)).mono ?_;rintro e w2⟨rfl,nq,rfl⟩)
  | (go_at_call 173;refine (z1v _ _).mono ?_;rintro e w2⟨rfl,rfl⟩))
 exact z0S (wq:=((w1.drewN _).setCell ⟨w.heap.size,3,none⟩ (.int .i64 (f3 - n))).setCell ⟨w.heap.size,4,none⟩ (.int .i64 (bo+n))) ((BAt.other (w:=w1.drewN _) HR1.out (by omega) _).other (by omega) _) (((below_drewN HB.out _).setCell (by simp) _).setCell (by simp) _) f0 f1 f2 (f3 - n) (bo+n) wa bu 0 _ rfl rfl rfl
end
end Go.Proofs.YtmopekkhmhhcaaaGreat
