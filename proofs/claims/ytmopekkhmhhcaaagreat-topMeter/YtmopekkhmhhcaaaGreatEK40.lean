/- Parts of the proof. -/
import Derived.Test.YtmopekkhmhhcaaaGreatEL
import Derived.Test.YtmopekkhmhhcaaaGreatEK1
import Derived.Test.YtmopekkhmhhcaaaGreatEK30
import Derived.Deep.RegionLaw
import Derived.Laws.OwnMore
import Derived.Deep.SlicePairs
set_option maxRecDepth 100000
set_option maxHeartbeats 16000000
namespace Go.Proofs.YtmopekkhmhhcaaaGreat
open Go.Proofs.Tryz
namespace Ln
open Go.RowKit
theorem j4B:(prog.info? 9).map (fun i=>(i.zero,i.size,i.bytes))=some (some (.string ⟨#[]⟩),1,16):=by kernel_rfl
theorem j6v:(prog.info? 3).map (fun i=>(i.zero,i.size,i.bytes))=some (some (.int .i64 0),1,8):=by kernel_rfl
theorem j1I{B:Nat}{w:World}{g n c e:Nat}{l:List ByteArray}(h:w.ownsRow B e 1 (.slice (some ⟨g,0,none⟩) n c) n (l.map .string)):B<=g/\g<w.heap.size/\z3m w g 0 l:=by
  rcases h.2 with ⟨h1,_⟩ | ⟨g',cap,cur,hv,hb,hg,hn,hm,hs,ht⟩
  · cases h1
  · cases hv
    refine ⟨hb,(Array.getElem?_eq_some_iff.1 hg).1,fun i hi=>?_⟩;have hl:l.length=n:=by have:=h.1;simpa using this
    have:(cur.toList.take (n * 1))[i]?=some (.string (l.getD i ByteArray.empty)):=by rw[ht];simp[List.getD,hi]
    rw[List.getElem?_take_of_lt (by omega)]at this
    simp only[World.cell?,hg,Nat.zero_add]
    simpa using this
theorem j0r{B:Nat}{w:World}{g n c e:Nat}{l:List Int}(h:w.ownsRow B e 1 (.slice (some ⟨g,0,none⟩) n c) n (l.map (.int .i64))):B<=g/\g<w.heap.size/\z0Z w g 0 l:=by
  rcases h.2 with ⟨h1,_⟩ | ⟨g',cap,cur,hv,hb,hg,hn,hm,hs,ht⟩
  · cases h1
  · cases hv
    refine ⟨hb,(Array.getElem?_eq_some_iff.1 hg).1,fun i hi=>?_⟩;have hl:l.length=n:=by have:=h.1;simpa using this
    have:(cur.toList.take (n * 1))[i]?=some (.int .i64 (l.getD i 0)):=by rw[ht];simp[List.getD,hi]
    rw[List.getElem?_take_of_lt (by omega)]at this
    simp only[World.cell?,hg,Nat.zero_add]
    simpa using this
theorem q9p{w:World}{b off:Nat}{l:List ByteArray}{a:Option Addr}(ha:0<l.length->a=some ⟨b,off,none⟩)(hc:z3m w b off l):∀ ad,a=some ad->∀ j u,(l.map Value.string)[j]?=some u->w.cell? (ad.add j)=some u:=by
  intro ad e j u hu;have hj:j<l.length:=by have:=(List.getElem?_eq_some_iff.1 hu).1;simpa using this
  rw[ha (by omega)]at e
  cases e;rw[Addr.add_lit,hc j hj]
  simp[hj]at hu
  simp[List.getD,hj,hu]
theorem q6I(l:List ByteArray)(a:Option Addr)(c b off:Nat)(s:ByteArray)(w:World)(hl:l.length<=400)(ha:0<l.length->a=some ⟨b,off,none⟩)(hn:a=none->c=0)(hc:z3m w b off l) :
    Calls prog 163 #[.slice a l.length c,Value.string s] w fun e w'=>∃ g C,e=.returned (.slice (some ⟨g,0,none⟩) (l ++ [s]).length C)/\w.heap.size<=g/\g<w'.heap.size/\z3m w' g 0 (l ++ [s])/\Below w.heap.size w w':=by
  obtain ⟨i0,hi,hz0,hz1,hz2⟩:=info_parts j4B;have hb1:i0.bytes * (l.length+1)<=281474976710656:=by rw[hz2];omega
  have hb2:l.length+1<=maxLen:=by unfold maxLen;omega
  have hnn:a=none->l.length=0/\c=0:=fun e=>by
    refine ⟨?_,hn e⟩
    rcases Nat.eq_zero_or_pos l.length with h | h
    · exact h
    · rw[ha h]at e;cases e
  have HC:Hid (0<l.length->a=some ⟨b,off,none⟩):=ha;have HD:Hid (z3m w b off l):=hc
  have h1c:∀ u∈l.map Value.string,u.oneCell'=true:=fun u hu=>by
    simp at hu
    obtain ⟨t,_,rfl⟩:=hu;rfl
  clear ha hc hn
  go_enter func163,ntmps163
  go_wp2_with (first
    | (refine wpList_make_own _ rfl _ _ 23 rfl w.heap.size 9 i0 _ 1 underlying23 hi hz0 hz1 .i64 .i64 _ (l.length+1) rfl rfl ?_ hb1 hb2 (Nat.le_refl _) ?_
       · first | omega | simp
       intro w1 ho1 hg1;have B1:=(Below.refl w.heap.size w).grown hg1 (Nat.le_refl _) (fun k hk=>by cases hk)
       have HB1:=hide B1;have sc:=q9p HC.out (HD.out.later B1)
       clear B1 hg1)
    | (have _m:=sc
       at_builtin
       refine wpList_append_fits_any _ rfl _ _ 23 rfl w.heap.size 9 i0 1 underlying23 hi hz1 w.heap.size 0 (l.length+1) [] rfl ho1 a l.length c (l.map Value.string) rfl (by simp) hnn sc h1c (by omega) ?_
       intro w2 ho2 hg2;have HB2:=hide (HB1.out.grown hg2 HB1.out.size (fun k hk=>by cases hk;exact Nat.le_refl _))
       rw[List.nil_append,Nat.zero_add]at ho2
       clear hg2 sc ho1)
    | (at_builtin
       refine wpList_append_fits _ rfl _ _ 23 rfl w.heap.size 9 i0 1 underlying23 hi hz1 w.heap.size l.length (l.length+1) (l.map Value.string) ?_ (World.ownsRow.alloc ho2 _) ⟨w2.heap.size,0,none⟩ 1 1 [Value.string s] rfl rfl (cell_one_new _ _ _) (by simp[Value.oneCell']) (by omega) ?_
       · first | rfl | simp
       intro w3 ho3 hg3
       have HB3:=hide ((HB2.out.alloc HB2.out.size _).grown hg3 (Nat.le_trans HB2.out.size (by simp)) (fun k hk=>by cases hk;exact Nat.le_refl _))))
  go_ret;rw[show l.map Value.string ++ [Value.string s]=(l ++ [s]).map Value.string by simp]at ho3
  obtain ⟨o1,o2,o3⟩:=j1I ho3;exact ⟨w.heap.size,l.length+1,by simp,Nat.le_refl _,o2,o3,HB3.out⟩
theorem q7P{w:World}{b off:Nat}{l:List Int}{a:Option Addr}(ha:0<l.length->a=some ⟨b,off,none⟩)(hc:z0Z w b off l):∀ ad,a=some ad->∀ j u,(l.map (Value.int .i64))[j]?=some u->w.cell? (ad.add j)=some u:=by
  intro ad e j u hu;have hj:j<l.length:=by have:=(List.getElem?_eq_some_iff.1 hu).1;simpa using this
  rw[ha (by omega)]at e
  cases e;rw[Addr.add_lit,hc j hj]
  simp[hj]at hu
  simp[List.getD,hj,hu]
theorem q9w(l:List Int)(a:Option Addr)(c b off:Nat)(s:Int)(w:World)(hl:l.length<=400)(ha:0<l.length->a=some ⟨b,off,none⟩)(hn:a=none->c=0)(hc:z0Z w b off l) :
    Calls prog 164 #[.slice a l.length c,(Value.int .i64) s] w fun e w'=>∃ g C,e=.returned (.slice (some ⟨g,0,none⟩) (l ++ [s]).length C)/\w.heap.size<=g/\g<w'.heap.size/\z0Z w' g 0 (l ++ [s])/\Below w.heap.size w w':=by
  obtain ⟨i0,hi,hz0,hz1,hz2⟩:=info_parts j6v;have hb1:i0.bytes * (l.length+1)<=281474976710656:=by rw[hz2];omega
  have hb2:l.length+1<=maxLen:=by unfold maxLen;omega
  have hnn:a=none->l.length=0/\c=0:=fun e=>by
    refine ⟨?_,hn e⟩
    rcases Nat.eq_zero_or_pos l.length with h | h
    · exact h
    · rw[ha h]at e;cases e
  have HC:Hid (0<l.length->a=some ⟨b,off,none⟩):=ha;have HD:Hid (z0Z w b off l):=hc
  have h1c:∀ u∈l.map (Value.int .i64),u.oneCell'=true:=fun u hu=>by
    simp at hu
    obtain ⟨t,_,rfl⟩:=hu;rfl
  clear ha hc hn
  go_enter func164,ntmps164
  go_wp2_with (first
    | (refine wpList_make_own _ rfl _ _ 45 rfl w.heap.size 3 i0 _ 1 underlying45 hi hz0 hz1 .i64 .i64 _ (l.length+1) rfl rfl ?_ hb1 hb2 (Nat.le_refl _) ?_
       · first | omega | simp
       intro w1 ho1 hg1;have B1:=(Below.refl w.heap.size w).grown hg1 (Nat.le_refl _) (fun k hk=>by cases hk)
       have HB1:=hide B1;have sc:=q7P HC.out (HD.out.later B1)
       clear B1 hg1)
    | (have _m:=sc
       at_builtin
       refine wpList_append_fits_any _ rfl _ _ 45 rfl w.heap.size 3 i0 1 underlying45 hi hz1 w.heap.size 0 (l.length+1) [] rfl ho1 a l.length c (l.map (Value.int .i64)) rfl (by simp) hnn sc h1c (by omega) ?_
       intro w2 ho2 hg2;have HB2:=hide (HB1.out.grown hg2 HB1.out.size (fun k hk=>by cases hk;exact Nat.le_refl _))
       rw[List.nil_append,Nat.zero_add]at ho2
       clear hg2 sc ho1)
    | (at_builtin
       refine wpList_append_fits _ rfl _ _ 45 rfl w.heap.size 3 i0 1 underlying45 hi hz1 w.heap.size l.length (l.length+1) (l.map (Value.int .i64)) ?_ (World.ownsRow.alloc ho2 _) ⟨w2.heap.size,0,none⟩ 1 1 [(Value.int .i64) s] rfl rfl (cell_one_new _ _ _) (by simp[Value.oneCell']) (by omega) ?_
       · first | rfl | simp
       intro w3 ho3 hg3
       have HB3:=hide ((HB2.out.alloc HB2.out.size _).grown hg3 (Nat.le_trans HB2.out.size (by simp)) (fun k hk=>by cases hk;exact Nat.le_refl _))))
  go_ret;rw[show l.map (Value.int .i64) ++ [(Value.int .i64) s]=(l ++ [s]).map (Value.int .i64) by simp]at ho3
  obtain ⟨o1,o2,o3⟩:=j0r ho3;exact ⟨w.heap.size,l.length+1,by simp,Nat.le_refl _,o2,o3,HB3.out⟩
end Ln
namespace Ln
open Go.RowKit
def LVX(lo sb0 db0:Nat)(x0:Line)(B:Nat)(w:World)(x:Line)(v:Value):Prop:=
 ∃ sa da cs cd sb so db dO,v=.agg #[.slice sa x.S.length cs,.slice da x.D.length cd,.int .i64 x.g,.bool x.cl]/\LAt w x sa da cs cd sb so db dO/\(0<x.S.length->sb<B/\((sb=sb0/\x.S=x0.S)∨lo<=sb))/\(0<x.D.length->db<B/\((db=db0/\x.D=x0.D)∨lo<=db))
def Ans(sb0 db0:Nat)(x0:Line)(w:World)(r:Line×Int)(e:Ending)(w':World):Prop:=∃ v,e=.returned (.tuple #[v,.int .i64 r.2])/\LVX w.heap.size sb0 db0 x0 w'.heap.size w' r.1 v/\Below w.heap.size w w'
def FAt(w:World)(b:Nat)(v0 v1 v2 v3:Value):Prop:=w.heap[b]?=some (.cells #[v0,v1,v2,v3] 47)
section
variable {w w':World} {b B:Nat} {v0 v1 v2 v3:Value}
theorem FAt.later(h:FAt w b v0 v1 v2 v3)(hb:Below B w w')(hB:b<B):FAt w' b v0 v1 v2 v3:=(hb.block b hB).trans h
theorem FAt.new(w:World)(v0 v1 v2 v3:Value):FAt (w.alloc (.cells #[v0,v1,v2,v3] 47)) w.heap.size v0 v1 v2 v3:=heap_alloc_new _ _
theorem FAt.lt(h:FAt w b v0 v1 v2 v3):b<w.heap.size:=(Array.getElem?_eq_some_iff.1 h).1
theorem FAt.alloc(h:FAt w b v0 v1 v2 v3)(o:Obj):FAt (w.alloc o) b v0 v1 v2 v3:=(Below.heap_alloc _ _ _ h.lt).trans h
theorem FAt.other{c o:Nat}(h:FAt w b v0 v1 v2 v3)(hb:b≠c)(v:Value):FAt (w.setCell ⟨c,o,none⟩ v) b v0 v1 v2 v3:=(Below.heap_setCell _ _ _ _ hb).trans h
theorem FAt.facts(h:FAt w b v0 v1 v2 v3):(w.cell? ⟨b,0,none⟩=some v0/\w.cell? ⟨b,1,none⟩=some v1/\w.cell? ⟨b,2,none⟩=some v2/\w.cell? ⟨b,3,none⟩=some v3)/\(w.frozen? ⟨b,0,none⟩=false/\w.frozen? ⟨b,1,none⟩=false/\w.frozen? ⟨b,2,none⟩=false/\w.frozen? ⟨b,3,none⟩=false):=by
 unfold FAt at h
 simp[World.cell?,World.frozen?,h]
theorem FAt.q8x(h:FAt w b v0 v1 v2 v3)(v:Value):FAt (w.setCell ⟨b,0,none⟩ v) b v v1 v2 v3:=by
 unfold FAt at *
 simp[World.setCell,Array.getElem?_modify,h]
theorem FAt.q5Y(h:FAt w b v0 v1 v2 v3)(v:Value):FAt (w.setCell ⟨b,1,none⟩ v) b v0 v v2 v3:=by
 unfold FAt at *
 simp[World.setCell,Array.getElem?_modify,h]
theorem FAt.q9r(h:FAt w b v0 v1 v2 v3)(v:Value):FAt (w.setCell ⟨b,2,none⟩ v) b v0 v1 v v3:=by
 unfold FAt at *
 simp[World.setCell,Array.getElem?_modify,h]
theorem FAt.q7n(h:FAt w b v0 v1 v2 v3)(v:Value):FAt (w.setCell ⟨b,3,none⟩ v) b v0 v1 v2 v:=by
 unfold FAt at *
 simp[World.setCell,Array.getElem?_modify,h]
end
def q9G(w:World)(b:Nat)(v0 v1 v2 v3:Value):World:=(((w.setCell ⟨b,0,none⟩ v0).setCell ⟨b,1,none⟩ v1).setCell ⟨b,2,none⟩ v2).setCell ⟨b,3,none⟩ v3
theorem j3L{w:World}{b:Nat}{u0 u1 u2 u3:Value}(h:FAt w b u0 u1 u2 u3)(v0 v1 v2 v3:Value):FAt (q9G w b v0 v1 v2 v3) b v0 v1 v2 v3:=(((h.q8x v0).q5Y v1).q9r v2).q7n v3
theorem q4w{B:Nat}{w0 w:World}{b:Nat}(v0 v1 v2 v3:Value)(h:Below B w0 w)(hB:B<=b):Below B w0 (q9G w b v0 v1 v2 v3):=(((h.setCell hB _).setCell hB _).setCell hB _).setCell hB _
theorem z8u{w:World}{b:Nat}(v0 v1 v2 v3:Value){c:Nat}(hc:c≠b):(q9G w b v0 v1 v2 v3).heap[c]?=w.heap[c]?:=by
 unfold q9G;rw[Below.heap_setCell _ _ _ _ hc,Below.heap_setCell _ _ _ _ hc,Below.heap_setCell _ _ _ _ hc,Below.heap_setCell _ _ _ _ hc]
theorem cell_of_heap{w w':World}{b:Nat}(h:w'.heap[b]?=w.heap[b]?)(o:Nat):w'.cell? ⟨b,o,none⟩=w.cell? ⟨b,o,none⟩:=World.cell?_of_block (w:=w) (a:=⟨b,o,none⟩) h
theorem q2a{w:World}{b c o:Nat}{v:Value}(h:c≠b)(k:Nat):(w.setCell ⟨b,o,none⟩ v).cell? ⟨c,k,none⟩=w.cell? ⟨c,k,none⟩:=cell_of_heap (Below.heap_setCell _ _ _ _ h) k
theorem LAt.set{w w':World}{x:Line}{sa da:Option Addr}{cs cd sb so db dO:Nat}(h:LAt w x sa da cs cd sb so db dO)(hS:0<x.S.length->w'.heap[sb]?=w.heap[sb]?)(hD:0<x.D.length->w'.heap[db]?=w.heap[db]?):LAt w' x sa da cs cd sb so db dO:=
 ⟨h.hls,h.hld,h.hsa,h.hda,h.ncs,h.ncd,fun i hi=>(cell_of_heap (hS (by omega)) _).trans (h.PS i hi),fun i hi=>(cell_of_heap (hD (by omega)) _).trans (h.PD i hi)⟩
theorem z6F{f:Func}{p q:Tmp}(hres:f.results=#[.cell p 47,.tmp q]){w wq:World}{b:Nat}{u0 u1 u2 u3:Value}(R:FAt wq b u0 u1 u2 u3)(H:Below w.heap.size w wq)(hB:w.heap.size<=b)(x:Line)(sa da:Option Addr)(cs cd sb so db dO:Nat)(L:LAt wq x sa da cs cd sb so db dO)
  (hS:0<x.S.length->sb≠b) (hD:0<x.D.length->db≠b) {sb0 db0:Nat} {x0:Line} (hS0:0<x.S.length->(sb=sb0/\x.S=x0.S)∨w.heap.size<=sb) (hD0:0<x.D.length->(db=db0/\x.D=x0.D)∨w.heap.size<=db) (nS nD:Nat) (eS:nS=x.S.length) (eD:nD=x.D.length) (er:Int) (r:Line×Int) (hr:r=(x,er)) (act:Act)
  (h8:act.tmps.getD p undef=.pointer (some ⟨b,0,none⟩)) (h9:act.tmps.getD q undef=.int .i64 er) (hd:act.defers=[]) :
  bodyPost prog f (fun e w'=>Ans sb0 db0 x0 w r e w') Exit.ret act (q9G wq b (.slice sa nS cs) (.slice da nD cd) (.int .i64 x.g) (.bool x.cl)):=by
 subst hr eS eD;have R1:=j3L R (.slice sa x.S.length cs) (.slice da x.D.length cd) (.int .i64 x.g) (.bool x.cl);have H1:=q4w (.slice sa x.S.length cs) (.slice da x.D.length cd) (.int .i64 x.g) (.bool x.cl) H hB;have L1:LAt (q9G wq b (.slice sa x.S.length cs) (.slice da x.D.length cd) (.int .i64 x.g) (.bool x.cl)) x sa da cs cd sb so db dO:=L.set (fun h=>z8u _ _ _ _ (hS h)) (fun h=>z8u _ _ _ _ (hD h));generalize q9G wq b (.slice sa x.S.length cs) (.slice da x.D.length cd) (.int .i64 x.g) (.bool x.cl)=w9 at *;obtain ⟨⟨c0,c1,c2,c3⟩,-⟩:=R1.facts;have h8':act.tmps[p]?.getD undef=.pointer (some ⟨b,0,none⟩):=by simpa using h8
 have h9':act.tmps[q]?.getD undef=.int .i64 er:=by simpa using h9
 exact bodyPost_ret (v:=.tuple #[.agg #[.slice sa x.S.length cs,.slice da x.D.length cd,.int .i64 x.g,.bool x.cl],.int .i64 er]) (by simp[results,hres,go_sem,h8',h9',c0,c1,c2,c3]) hd ⟨_,rfl,⟨sa,da,cs,cd,sb,so,db,dO,rfl,L1,fun h=>⟨L1.ltS h,hS0 h⟩,fun h=>⟨L1.ltD h,hD0 h⟩⟩,H1⟩
theorem q7E(x:Line)(s:ByteArray)(due:Int) :
  (due<0/\(z4W x s due,z6h x due)=(x,2))∨(0<=due/\z4a x≠0/\(z4W x s due,z6h x due)=(x,z4a x))∨(0<=due/\z4a x=0/\400<=x.S.length/\(z4W x s due,z6h x due)=(x,6)) ∨
  (0<=due/\z4a x=0/\x.S.length<400/\(z4W x s due,z6h x due)=(⟨x.S ++ [s],x.D ++ [due],x.g,x.cl⟩,0)):=by
 unfold z4W
 by_cases h1:due<0
 ·left;simp[z6h,h1]
 right
 by_cases h2:z4a x=0
 ·right
  by_cases h3:400<=x.S.length
  ·left;refine ⟨by omega,h2,h3,?_⟩;simp[z6h,h1,h2,h3]
  ·right;refine ⟨by omega,h2,by omega,?_⟩;simp[z6h,h1,h2,h3]
 ·left;refine ⟨by omega,h2,?_⟩;simp[z6h,h1,h2]
theorem FAt.new2(w:World)(o:Obj)(v0 v1 v2 v3:Value):FAt ((w.alloc o).alloc (.cells #[v0,v1,v2,v3] 47)) (w.heap.size+1) v0 v1 v2 v3:=by
 have:=FAt.new (w.alloc o) v0 v1 v2 v3
 rwa [show (w.alloc o).heap.size=w.heap.size+1 by simp]at this
structure q4u(w w0:World)(x:Line)(sa da:Option Addr)(cs cd sb so db dO:Nat):Prop where
 F1:FAt w0 w.heap.size (.slice sa x.S.length cs) (.slice da x.D.length cd) (.int .i64 x.g) (.bool x.cl)
 F2:FAt w0 (w.heap.size+1) (.slice none 0 0) (.slice none 0 0) (.int .i64 0) (.bool false)
 L:LAt w0 x sa da cs cd sb so db dO
 ltS:0<x.S.length->sb<w.heap.size
 ltD:0<x.D.length->db<w.heap.size
 below:Below w.heap.size w w0
 size:w.heap.size+2<=w0.heap.size
theorem begun{w:World}{x:Line}{sa da:Option Addr}{cs cd sb so db dO:Nat}(L:LAt w x sa da cs cd sb so db dO):q4u w ((w.alloc (.cells #[.slice sa x.S.length cs,.slice da x.D.length cd,.int .i64 x.g,.bool x.cl] 47)).alloc (.cells #[.slice none 0 0,.slice none 0 0,.int .i64 0,.bool false] 47)) x sa da cs cd sb so db dO:=by
 have hb:Below w.heap.size w ((w.alloc (.cells #[.slice sa x.S.length cs,.slice da x.D.length cd,.int .i64 x.g,.bool x.cl] 47)).alloc (.cells #[.slice none 0 0,.slice none 0 0,.int .i64 0,.bool false] 47)):=(z0s w _).alloc (by simp) _
 exact ⟨(FAt.new w _ _ _ _).alloc _,FAt.new2 w _ _ _ _ _,L.later hb,L.ltS,L.ltD,hb,by simp⟩
theorem q4u.over{w w0 w1:World}{x:Line}{sa da:Option Addr}{cs cd sb so db dO:Nat}(h:q4u w w0 x sa da cs cd sb so db dO)(hb:Below w0.heap.size w0 w1):q4u w w1 x sa da cs cd sb so db dO:=
 ⟨h.F1.later hb h.F1.lt,h.F2.later hb h.F2.lt,h.L.later hb,h.ltS,h.ltD,z1Q h.below hb,Nat.le_trans h.size hb.size⟩
theorem q4u.z0F{f:Func}{p q:Tmp}(hres:f.results=#[.cell p 47,.tmp q]){w w0:World}{x:Line}{sa da:Option Addr}{cs cd sb so db dO:Nat}(h:q4u w w0 x sa da cs cd sb so db dO)(er:Int)(r:Line×Int)(hr:r=(x,er))(act:Act)
  (h8:act.tmps.getD p undef=.pointer (some ⟨w.heap.size+1,0,none⟩)) (h9:act.tmps.getD q undef=.int .i64 er) (hd:act.defers=[]) :
  bodyPost prog f (fun e w'=>Ans sb db x w r e w') Exit.ret act (q9G w0 (w.heap.size+1) (.slice sa x.S.length cs) (.slice da x.D.length cd) (.int .i64 x.g) (.bool x.cl)):=
 z6F hres h.F2 h.below (Nat.le_succ _) x sa da cs cd sb so db dO h.L (fun h0=>by have:=h.ltS h0;omega) (fun h0=>by have:=h.ltD h0;omega) (fun _=>.inl ⟨rfl,rfl⟩) (fun _=>.inl ⟨rfl,rfl⟩) _ _ rfl rfl er r hr act h8 h9 hd
theorem j3r(x:Line)(sa da:Option Addr)(cs cd sb so db dO:Nat)(s:ByteArray)(due:Int)(w:World)(L:LAt w x sa da cs cd sb so db dO) :
  Calls prog 123 #[.agg #[.slice sa x.S.length cs,.slice da x.D.length cd,.int .i64 x.g,.bool x.cl],.string s,.int .i64 due] w fun e w'=>Ans sb db x w (z4W x s due,z6h x due) e w':=by
 have hcs:=q7E x s due;generalize (z4W x s due,z6h x due)=r at *;have HB:=hide (begun L);have HREF:=hide (fun w (L:LAt w x sa da cs cd sb so db dO)=>q1G x sa da cs cd sb so db dO w L);clear L
 go_enter func123,ntmps123
 go_upto_region 1 with fail
 generalize ((w.alloc (.cells #[.slice sa x.S.length cs,.slice da x.D.length cd,.int .i64 x.g,.bool x.cl] 47)).alloc (.cells #[.slice none 0 0,.slice none 0 0,.int .i64 0,.bool false] 47))=w0 at *;obtain ⟨⟨c0,c1,c2,c3⟩,-⟩:=HB.out.F1.facts;obtain ⟨⟨d0,d1,d2,d3⟩,⟨f0,f1,f2,f3⟩⟩:=HB.out.F2.facts;have hgd:=fun h=>z7d (z7q (x:=x) h).1;have HGD:=hide hgd;clear hgd;generalize z4a x=R at *
 rcases hcs with ⟨h1,hr⟩ | ⟨h1,h2,hr⟩ | ⟨h1,h2,h3,hr⟩ | ⟨h1,h2,h3,hr⟩
 ·have HR:=hide hr;clear hr;go_wp2;exact HB.out.z0F rfl _ _ HR.out _ rfl rfl rfl
 ·have HR:=hide hr;have h2':(R != 0)=true:=by simpa using h2
  clear hr h2
  go_wp2_with (go_at_call 129;refine (HREF.out _ HB.out.L).mono ?_;rintro e w1 ⟨rfl,hb⟩;have HB1:=hide (HB.out.over hb);clear hb c0 c1 c2 c3 d0 d1 d2 d3 f0 f1 f2 f3;obtain ⟨⟨c0,c1,c2,c3⟩,-⟩:=HB1.out.F1.facts;obtain ⟨⟨d0,d1,d2,d3⟩,⟨f0,f1,f2,f3⟩⟩:=HB1.out.F2.facts)
  exact HB1.out.z0F rfl _ _ HR.out _ rfl rfl rfl
 ·have HR:=hide hr;subst h2;clear hr
  go_wp2_with (go_at_call 129;refine (HREF.out _ HB.out.L).mono ?_;rintro e w1 ⟨rfl,hb⟩;have HB1:=hide (HB.out.over hb);clear hb c0 c1 c2 c3 d0 d1 d2 d3 f0 f1 f2 f3;obtain ⟨⟨c0,c1,c2,c3⟩,-⟩:=HB1.out.F1.facts;obtain ⟨⟨d0,d1,d2,d3⟩,⟨f0,f1,f2,f3⟩⟩:=HB1.out.F2.facts)
  exact HB1.out.z0F rfl _ _ HR.out _ rfl rfl rfl
 ·have HR:=hide hr;subst h2;obtain ⟨hl1,hl2,-,-⟩:=HGD.out rfl;have HL1:=hide hl1;clear hr hl1
  go_upto_region 8 with (go_at_call 129;refine (HREF.out _ HB.out.L).mono ?_;rintro e w1 ⟨rfl,hb⟩;have HB1:=hide (HB.out.over hb);clear hb c0 c1 c2 c3 d0 d1 d2 d3 f0 f1 f2 f3;obtain ⟨⟨c0,c1,c2,c3⟩,⟨e0,e1,e2,e3⟩⟩:=HB1.out.F1.facts)
  go_upto_region 9 with (go_at_call 163;refine (q6I x.S sa cs sb so s _ hl2 HB1.out.L.hsa HB1.out.L.ncs HB1.out.L.PS).mono ?_;rintro e w2 ⟨g1,C1,rfl,hg1,hg1',hS,hb⟩;have HB2:=hide (HB1.out.over hb);have HS:=hide (show _/\_/\_ from ⟨hS,hg1,hg1'⟩);have HZ:=hide hb.size;clear hb hS hg1 hg1' c0 c1 c2 c3 e0 e1 e2 e3;obtain ⟨⟨c0,c1,c2,c3⟩,⟨e0,e1,e2,e3⟩⟩:=HB2.out.F1.facts)
  have F1:=HB2.out.F1.q8x (.slice (some ⟨g1,0,none⟩) (x.S.length+1) C1);have F2:=HB2.out.F2.other (c:=w.heap.size) (o:=0) (by omega) (.slice (some ⟨g1,0,none⟩) (x.S.length+1) C1)
  have BW:=HB2.out.below.setCell (p:=⟨w.heap.size,0,none⟩) (Nat.le_refl _) (.slice (some ⟨g1,0,none⟩) (x.S.length+1) C1);have PD:=HB2.out.L.PD.z4k ((Below.refl w.heap.size w2).setCell (p:=⟨w.heap.size,0,none⟩) (Nat.le_refl _) (.slice (some ⟨g1,0,none⟩) (x.S.length+1) C1)) HB2.out.ltD;have PS:z3m (w2.setCell ⟨w.heap.size,0,none⟩ (.slice (some ⟨g1,0,none⟩) (x.S.length+1) C1)) g1 0 (x.S ++ [s]):=fun i hi=>(q2a (by have:=HB1.out.size;have:=HS.out.2.1;omega) _).trans (HS.out.1 i hi)
  have hz:(w2.setCell ⟨w.heap.size,0,none⟩ (.slice (some ⟨g1,0,none⟩) (x.S.length+1) C1)).heap.size=w2.heap.size:=by simp
  have hz2:w.heap.size+2<=g1/\g1<w2.heap.size:=⟨by have:=HB1.out.size;have:=HS.out.2.1;omega,HS.out.2.2⟩
  clear c0 c1 c2 c3 e0 e1 e2 e3;generalize (w2.setCell ⟨w.heap.size,0,none⟩ (.slice (some ⟨g1,0,none⟩) (x.S.length+1) C1))=w3 at *;obtain ⟨⟨c0,c1,c2,c3⟩,⟨e0,e1,e2,e3⟩⟩:=F1.facts;have HX:=hide (show _/\_/\_/\_/\_/\_/\_ from ⟨F1,F2,BW,PD,PS,hz,hz2⟩);clear F1 F2 BW PD PS hz hz2
  go_upto_region 10 with (go_at_call 164;refine (q9w x.D da cd db dO due _ (by rw[HL1.out];exact hl2) HB2.out.L.hda HB2.out.L.ncd HX.out.2.2.2.1).mono ?_;rintro e w4 ⟨g2,C2,rfl,hg2,hg2',hD,hb⟩;have HY:=hide (show _/\_/\_/\_ from ⟨hD,hg2,hg2',hb⟩);have F1:=HX.out.1.later hb HX.out.1.lt;clear hb hD hg2 hg2' c0 c1 c2 c3 e0 e1 e2 e3;obtain ⟨⟨c0,c1,c2,c3⟩,⟨e0,e1,e2,e3⟩⟩:=F1.facts)
  have F2:=(HX.out.2.1.later HY.out.2.2.2 HX.out.2.1.lt).other (c:=w.heap.size) (o:=1) (by omega) (.slice (some ⟨g2,0,none⟩) (x.D.length+1) C2)
  have F1':=F1.q5Y (.slice (some ⟨g2,0,none⟩) (x.D.length+1) C2);have BW:=(z1Q HX.out.2.2.1 HY.out.2.2.2).setCell (p:=⟨w.heap.size,1,none⟩) (Nat.le_refl _) (.slice (some ⟨g2,0,none⟩) (x.D.length+1) C2);have z:=HX.out.2.2.2.2.2;have z2:=HY.out.2.1
  have LN:LAt (w4.setCell ⟨w.heap.size,1,none⟩ (.slice (some ⟨g2,0,none⟩) (x.D.length+1) C2)) ⟨x.S ++ [s],x.D ++ [due],x.g,x.cl⟩ (some ⟨g1,0,none⟩) (some ⟨g2,0,none⟩) C1 C2 g1 0 g2 0:=by
   refine ⟨?_,?_,fun _=>rfl,fun _=>rfl,fun h=>(by cases h),fun h=>(by cases h),fun i hi=>?_,fun i hi=>?_⟩
   ·show (x.S ++ [s]).length * 16<=_
    simp;omega
   ·show (x.D ++ [due]).length * 8<=_
    simp[HL1.out];omega
   ·exact (q2a (by omega) _).trans ((HY.out.2.2.2.cell (p:=⟨g1,0+i,none⟩) (by show g1<_;omega)).trans (HX.out.2.2.2.2.1 i hi))
   ·exact (q2a (by omega) _).trans (HY.out.1 i hi)
  clear c0 c1 c2 c3 e0 e1 e2 e3;generalize (w4.setCell ⟨w.heap.size,1,none⟩ (.slice (some ⟨g2,0,none⟩) (x.D.length+1) C2))=w5 at *;obtain ⟨⟨c0,c1,c2,c3⟩,-⟩:=F1'.facts;obtain ⟨⟨d0,d1,d2,d3⟩,⟨f0,f1,f2,f3⟩⟩:=F2.facts;have HZZ:=hide (show _/\_/\_ from ⟨F2,BW,LN⟩);have hne1:g1≠w.heap.size+1:=by omega
  have hne2:g2≠w.heap.size+1:=by omega
  have hge1:w.heap.size<=g1:=by omega
  have hge2:w.heap.size<=g2:=by omega
  have HNE:=hide (show (_/\_)/\_/\_ from ⟨⟨hne1,hge1⟩,hne2,hge2⟩);clear F1 F1' F2 BW LN hne1 hne2 hge1 hge2 z z2;go_wp2;exact z6F rfl HZZ.out.1 HZZ.out.2.1 (Nat.le_succ _) ⟨x.S ++ [s],x.D ++ [due],x.g,x.cl⟩ _ _ _ _ _ _ _ _ HZZ.out.2.2 (fun _=>HNE.out.1.1) (fun _=>HNE.out.2.1) (fun _=>.inr HNE.out.1.2) (fun _=>.inr HNE.out.2.2) _ _ (by simp) (by simp) _ _ HR.out _ rfl rfl rfl
end Ln
namespace Ln
open Go.RowKit
theorem z1h{w w':World}{b e z n:Nat}{v:Value}{xs:List Value}(h:w.ownsRow b e z v n xs)(hk:∀ k,v.ownBlock=some k->w'.heap[k]?=w.heap[k]?):w'.ownsRow b e z v n xs:=by
 refine ⟨h.1,?_⟩
 rcases h.2 with hn | ⟨g,cap,cur,rfl,hb,hg,rest⟩
 ·exact .inl hn
 ·exact .inr ⟨g,cap,cur,rfl,hb,(hk g rfl).trans hg,rest⟩
theorem z8S{w w':World}{b e z n:Nat}{v:Value}{xs:List Value}(h:w.ownsRow b e z v n xs)(hb:Below w.heap.size w w'):w'.ownsRow b e z v n xs:=z1h h fun k hk=>hb.block k (World.ownsRow.lt h k hk).2
theorem z3h{w:World}{b e z n:Nat}{v:Value}{xs:List Value}(h:w.ownsRow b e z v n xs):∃ A C,v=.slice A n C:=by
 rcases h.2 with ⟨hv,hn⟩ | ⟨g,cap,cur,hv,_⟩
 ·subst hn;exact ⟨_,_,hv⟩
 ·exact ⟨_,_,hv⟩
end Ln
namespace Cd
open Go.ChangeShapes Go.WideShapes Go.ChangeAt Go.RowKit Go.Deep
structure q5L(w:World)(S:List (Int×Int))(D:List Int)(sa da:Option Addr)(sb so db dO:Nat):Prop where
 hls:S.length<=maxLen
 hld:D.length<=maxLen
 hsa:0<S.length->sa=some ⟨sb,so,none⟩
 hda:0<D.length->da=some ⟨db,dO,none⟩
 PS:z4S w sb so S
 PD:z0Z w db dO D
theorem q5L.later{w w':World}{S:List (Int×Int)}{D:List Int}{sa da:Option Addr}{sb so db dO:Nat}(h:q5L w S D sa da sb so db dO)(hb:Below w.heap.size w w'):q5L w' S D sa da sb so db dO:=
 ⟨h.hls,h.hld,h.hsa,h.hda,h.PS.later hb,h.PD.later hb⟩
section
variable {H:Type} {enc:TypeId×Value->H} {W:World}
end
end Cd
namespace Cd
open Go.RowKit
theorem j7m:(prog.info? 68).map (fun i=>(i.zero,i.size,i.bytes))=some (some (.agg #[.int .i64 0,.int .i64 0]),2,16):=by kernel_rfl
theorem info3:(prog.info? 3).map (fun i=>(i.zero,i.size,i.bytes))=some (some (.int .i64 0),1,8):=by kernel_rfl
theorem so{w:World}{b i j:Nat}{v u:Value}(hij:i≠j)(h:w.cell? ⟨b,j,none⟩=some u):(w.setCell ⟨b,i,none⟩ v).cell? ⟨b,j,none⟩=some u:=
 (World.cell?_setCell_other _ _ _ _ (fun e=>hij (by cases e;rfl))).trans h
theorem ss{w:World}{b i:Nat}{v u:Value}(h:w.cell? ⟨b,i,none⟩=some u):(w.setCell ⟨b,i,none⟩ v).cell? ⟨b,i,none⟩=some v:=World.cell?_setCell_same _ _ _ h
def z3t(w:World)(b:Nat)(v0 v1 v2 v3 v4 v5:Value):World:=
 (((((w.setCell ⟨b,0,none⟩ v0).setCell ⟨b,1,none⟩ v1).setCell ⟨b,2,none⟩ v2).setCell ⟨b,3,none⟩ v3).setCell ⟨b,4,none⟩ v4).setCell ⟨b,5,none⟩ v5
theorem z4s{w:World}{b:Nat}(v0 v1 v2 v3 v4 v5:Value)(h:∀ o,o<6->∃ u,w.cell? ⟨b,o,none⟩=some u) :
  (z3t w b v0 v1 v2 v3 v4 v5).cell? ⟨b,0,none⟩=some v0/\(z3t w b v0 v1 v2 v3 v4 v5).cell? ⟨b,1,none⟩=some v1/\(z3t w b v0 v1 v2 v3 v4 v5).cell? ⟨b,2,none⟩=some v2 /\
  (z3t w b v0 v1 v2 v3 v4 v5).cell? ⟨b,3,none⟩=some v3/\(z3t w b v0 v1 v2 v3 v4 v5).cell? ⟨b,4,none⟩=some v4/\(z3t w b v0 v1 v2 v3 v4 v5).cell? ⟨b,5,none⟩=some v5:=by
 obtain ⟨u0,h0⟩:=h 0 (by omega)
 obtain ⟨u1,h1⟩:=h 1 (by omega)
 obtain ⟨u2,h2⟩:=h 2 (by omega)
 obtain ⟨u3,h3⟩:=h 3 (by omega)
 obtain ⟨u4,h4⟩:=h 4 (by omega)
 obtain ⟨u5,h5⟩:=h 5 (by omega)
 exact ⟨so (by decide) (so (by decide) (so (by decide) (so (by decide) (so (by decide) (ss (h0)))))),so (by decide) (so (by decide) (so (by decide) (so (by decide) (ss (so (by decide) (h1)))))),so (by decide) (so (by decide) (so (by decide) (ss (so (by decide) (so (by decide) (h2)))))),so (by decide) (so (by decide) (ss (so (by decide) (so (by decide) (so (by decide) (h3)))))),so (by decide) (ss (so (by decide) (so (by decide) (so (by decide) (so (by decide) (h4)))))),ss (so (by decide) (so (by decide) (so (by decide) (so (by decide) (so (by decide) (h5))))))⟩
theorem z3v{B:Nat}{w0 w:World}{b:Nat}(v0 v1 v2 v3 v4 v5:Value)(h:Below B w0 w)(hB:B<=b):Below B w0 (z3t w b v0 v1 v2 v3 v4 v5):=
 (((((h.setCell hB _).setCell hB _).setCell hB _).setCell hB _).setCell hB _).setCell hB _
theorem z6c{w:World}{b:Nat}(v0 v1 v2 v3 v4 v5:Value){c:Nat}(hc:c≠b):(z3t w b v0 v1 v2 v3 v4 v5).heap[c]?=w.heap[c]?:=by
 unfold z3t;rw[Below.heap_setCell _ _ _ _ hc,Below.heap_setCell _ _ _ _ hc,Below.heap_setCell _ _ _ _ hc,Below.heap_setCell _ _ _ _ hc,Below.heap_setCell _ _ _ _ hc,Below.heap_setCell _ _ _ _ hc]
end Cd
namespace Pv
open Go.RowKit
section
variable {P:Nat->Prop} {w w':World} {v:Value} {sz bts:Nat} {cs:List Value}
theorem Rep.line{x:Ln.Line}{v1 v2:Value}(h1:Rep P w v1 1 16 (txC x.S))(h2:Rep P w v2 1 8 (inC x.D)):∃ A1 C1 A2 C2 sb so db dO,v1=.slice A1 x.S.length C1/\v2=.slice A2 x.D.length C2/\Ln.LAt w x A1 A2 C1 C2 sb so db dO/\(0<x.S.length->P sb)/\(0<x.D.length->P db):=by
 obtain ⟨A1,n1,C1,a1,a2,a3,a4,a5⟩:=h1;obtain ⟨A2,n2,C2,b1,b2,b3,b4,b5⟩:=h2;rw[z1P]at a2;rw[z0n]at b2;have e1:n1=x.S.length:=by omega
 have e2:n2=x.D.length:=by omega
 subst e1 e2
 have hs:∃ sb so,(0<x.S.length->A1=some ⟨sb,so,none⟩/\P sb)/\Ln.z3m w sb so x.S:=by
  rcases Nat.eq_zero_or_pos x.S.length with h0 | h0
  ·exact ⟨0,0,fun h=>by omega,fun i hi=>by omega⟩
  ·obtain ⟨b,off,e,hp,_,hc⟩:=a5 h0;exact ⟨b,off,fun _=>⟨e,hp⟩,fun i hi=>hc i _ (z7t _ i hi)⟩
 have hd:∃ db dO,(0<x.D.length->A2=some ⟨db,dO,none⟩/\P db)/\Ln.z0Z w db dO x.D:=by
  rcases Nat.eq_zero_or_pos x.D.length with h0 | h0
  ·exact ⟨0,0,fun h=>by omega,fun i hi=>by omega⟩
  ·obtain ⟨b,off,e,hp,_,hc⟩:=b5 h0;exact ⟨b,off,fun _=>⟨e,hp⟩,fun i hi=>hc i _ (z4q _ i hi)⟩
 obtain ⟨sb,so,s1,s2⟩:=hs;obtain ⟨db,dO,d1,d2⟩:=hd;exact ⟨A1,C1,A2,C2,sb,so,db,dO,a1,b1,⟨a3,b3,fun h=>(s1 h).1,fun h=>(d1 h).1,a4.1,b4.1,s2,d2⟩,fun h=>(s1 h).2,fun h=>(d1 h).2⟩
theorem Rep.lies{S:List (Int×Int)}{D:List Int}{v1 v2:Value}(h1:Rep P w v1 2 16 (pwC S))(h2:Rep P w v2 1 8 (inC D)):∃ A1 C1 A2 C2 sb so db dO,v1=.slice A1 S.length C1/\v2=.slice A2 D.length C2/\Cd.q5L w S D A1 A2 sb so db dO:=by
 obtain ⟨A1,n1,C1,a1,a2,a3,a4,a5⟩:=h1;obtain ⟨A2,n2,C2,b1,b2,b3,b4,b5⟩:=h2;rw[z0c]at a2;rw[z0n]at b2;have e1:n1=S.length:=by omega
 have e2:n2=D.length:=by omega
 subst e1 e2
 have hs:∃ sb so,(0<S.length->A1=some ⟨sb,so,none⟩)/\Cd.z4S w sb so S:=by
  rcases Nat.eq_zero_or_pos S.length with h0 | h0
  ·exact ⟨0,0,fun h=>by omega,fun i hi=>by omega⟩
  ·obtain ⟨b,off,e,hp,_,hc⟩:=a5 h0;exact ⟨b,off,fun _=>e,fun i hi=>⟨hc _ _ (z1U _ i hi).1,hc _ _ (z1U _ i hi).2⟩⟩
 have hd:∃ db dO,(0<D.length->A2=some ⟨db,dO,none⟩)/\Cd.z0Z w db dO D:=by
  rcases Nat.eq_zero_or_pos D.length with h0 | h0
  ·exact ⟨0,0,fun h=>by omega,fun i hi=>by omega⟩
  ·obtain ⟨b,off,e,hp,_,hc⟩:=b5 h0;exact ⟨b,off,fun _=>e,fun i hi=>hc i _ (z4q _ i hi)⟩
 obtain ⟨sb,so,s1,s2⟩:=hs;obtain ⟨db,dO,d1,d2⟩:=hd;exact ⟨A1,C1,A2,C2,sb,so,db,dO,a1,b1,⟨by unfold maxLen;omega,by unfold maxLen;omega,s1,d1,s2,d2⟩⟩
end
theorem q7h(a x c y:List Value)(h:x.length=y.length):spl (a ++ (x ++ c)).toArray a.length y=(a ++ (y ++ c)).toArray:=by
 apply Array.ext_getElem?;intro i;rw[q1t _ _ _ _ (by simp;omega)]
 simp only[List.getElem?_toArray]
 by_cases h1:i<a.length
 ·rw[if_neg (by omega),List.getElem?_append_left h1,List.getElem?_append_left h1]
 ·obtain ⟨j,rfl⟩:∃ j,i=a.length+j:=⟨i - a.length,by omega⟩
  have e:∀ z:List Value,(a ++ z)[a.length+j]?=z[j]?:=fun z=>by rw[List.getElem?_append_right (by omega),Nat.add_sub_cancel_left]
  rw[e,e,Nat.add_sub_cancel_left]
  by_cases h2:j<y.length
  ·rw[if_pos ⟨by omega,by omega⟩,List.getElem?_append_left h2]
  ·rw[if_neg (by omega),List.getElem?_append_right (by omega),List.getElem?_append_right (by omega),h]
theorem set_mid(a x c:List Value)(n j:Nat)(u:Value)(hn:a.length=n)(hj:j<x.length):((a ++ (x ++ c)).toArray).setIfInBounds (n+j) u=(a ++ (x.set j u ++ c)).toArray:=by
 subst hn;rw[List.setIfInBounds_toArray,List.set_append_right _ _ (by omega),Nat.add_sub_cancel_left,List.set_append_left _ _ hj]
def Join(A:Act)(R:World->Prop)(ex:Exit)(a:Act)(w:World):Prop:=ex=Exit.normal/\a=A/\R w
theorem z3N{P:Program}{c:Code}{Q:Exit->Act->World->Prop}{a:Act}{w:World}(R:World->Prop)(A:Act)(h1:Code.wp P c (Join A R) a w)(h2:∀ w',R w'->Q Exit.normal A w'):Code.wp P c Q a w:=
 Code.wp_mono (fun e a' w' h=>by obtain ⟨rfl,rfl,h⟩:=h;exact h2 w' h) h1
def j8o(A:Value->Act)(R:Value->World->Prop)(ex:Exit)(a:Act)(w:World):Prop:=∃ x,ex=Exit.normal/\a=A x/\R x w
theorem q2k{P:Program}{c:Code}{Q:Exit->Act->World->Prop}{a:Act}{w:World}(R:Value->World->Prop)(A:Value->Act)(h1:Code.wp P c (j8o A R) a w)(h2:∀ x w',R x w'->Q Exit.normal (A x) w'):Code.wp P c Q a w:=
 Code.wp_mono (fun e a' w' h=>by obtain ⟨x,rfl,rfl,h⟩:=h;exact h2 x w' h) h1
end Pv
namespace Cd
open Go.RowKit
def z4X(acc:Int)(l:List Int):Int:=l.foldl (fun n c=>n * 256+c) acc
theorem q0s(m:Nat):(2:Int) ^ (8 * (m+1))=2 ^ (8 * m) * 256:=by
 rw[show 8 * (m+1)=8 * m+8 by omega,Int.pow_add];rfl
theorem j2i(m:Nat):(0:Int)<2 ^ (8 * m):=Int.pow_pos (by decide)
theorem j3Y(n:Int)(m:Nat):∀ c∈be n m,0<=c/\c<256:=by
 induction m with
 | zero=>simp[be]
 | succ m ih =>
  intro c hc
  rcases List.mem_cons.1 hc with rfl | hc
  ·omega
  ·exact ih c hc
theorem j1M(k i v n:Int)(S:List (Int×Int))(D:List Int):∀ c∈enc k i v n S D,0<=c/\c<256:=by
 intro c hc;unfold enc q4v at hc;simp only[List.mem_append,List.mem_flatMap,z9E]at hc
 rcases hc with ((((((h | h) | h) | h) | h) | ⟨p,_,h | h⟩) | h) | ⟨p,_,h⟩ <;> exact j3Y _ _ c h
def bs(s:ByteArray):List Int:=s.data.toList.map fun u=>(u.toNat:Int)
theorem z2p(s:ByteArray):(bs s).length=s.size:=by simp[bs]
theorem z9y(s:ByteArray):∀ c∈bs s,0<=c/\c<256:=by
 intro c hc;obtain ⟨u,_,rfl⟩:=List.mem_map.1 hc;have:=u.toNat_lt;omega
theorem j6M(s:ByteArray)(j:Nat)(h:j<s.size):(bs s).getD j 0=(s[j].toNat:Int):=by
 have h':j<s.data.size:=h;rw[bs,List.getD,List.getElem?_map,Array.getElem?_toList,Array.getElem?_eq_getElem h'];rfl
theorem z8w(s:ByteArray)(m:Nat):bs (s.extract m s.size)=(bs s).drop m:=by
 unfold bs;rw[ByteArray.data_extract,Array.toList_extract,List.extract_eq_take_drop,← List.map_drop]
 congr 1
 rw[List.take_of_length_le]
 simp
def TAt(w:World)(b:Nat)(r:ByteArray)(sh:Bool):Prop:=w.heap[b]?=some (.cells #[.string r,.bool sh] 104)
theorem TAt.cells{w:World}{b:Nat}{r:ByteArray}{sh:Bool}(h:TAt w b r sh):w.cell? ⟨b,0,none⟩=some (.string r)/\w.cell? ⟨b,1,none⟩=some (.bool sh)/\w.frozen? ⟨b,0,none⟩=false/\w.frozen? ⟨b,1,none⟩=false:=by
 unfold TAt at h
 simp[World.cell?,World.frozen?,h]
theorem TAt.set0{w:World}{b:Nat}{r:ByteArray}{sh:Bool}(h:TAt w b r sh)(r':ByteArray):TAt (w.setCell ⟨b,0,none⟩ (.string r')) b r' sh:=by
 unfold TAt at *
 simp[World.setCell,Array.getElem?_modify,h]
theorem TAt.set1{w:World}{b:Nat}{r:ByteArray}{sh:Bool}(h:TAt w b r sh)(s':Bool):TAt (w.setCell ⟨b,1,none⟩ (.bool s')) b r s':=by
 unfold TAt at *
 simp[World.setCell,Array.getElem?_modify,h]
theorem z3x(w:World)(b o:Nat)(v:Value):w.grownBy (w.setCell ⟨b,o,none⟩ v) (some b):=
 ⟨rfl,rfl,rfl,by simp[World.setCell],fun k _ hk=>Below.heap_setCell _ _ _ _ (fun e=>hk (by rw[e]))⟩
theorem z4C{w w1 w2:World}{r:Option Nat}(h:w.grownBy w1 r)(k:w1.grownBy w2 r):w.grownBy w2 r:=
 ⟨k.os.trans h.os,k.tape.trans h.tape,k.output.trans h.output,Nat.le_trans h.size k.size,fun i hi hne=>(k.block i (Nat.lt_of_lt_of_le hi h.size) hne).trans (h.block i hi hne)⟩
def tk(m:Nat)(st:List Int×Bool):Int×(List Int×Bool):=if st.1.length<m then (0,([],true)) else (z4X 0 (st.1.take m),(st.1.drop m,st.2))
def TS(w:World)(b:Nat)(st:List Int×Bool):Prop:=∃ r,TAt w b r st.2/\bs r=st.1/\r.size<=maxLen
theorem j5c{j:Nat}(h:j<=6):(2:Int) ^ (8 * j)<=281474976710656:=by
 match j,h with
 | 0,_=>decide
 | 1,_=>decide
 | 2,_=>decide
 | 3,_=>decide
 | 4,_=>decide
 | 5,_=>decide
 | 6,_=>decide
theorem size_ext(r:ByteArray)(j:Nat):(r.extract j r.size).size<=r.size:=by
 have h:=z8w r j;have h2:=congrArg List.length h;rw[z2p,List.length_drop,z2p]at h2;omega
theorem z8M:∀ (l:List Int) (acc:Int) (B:Nat),(∀ c∈l,0<=c/\c<256)->0<=acc->acc<2 ^ (8 * B)->0<=z4X acc l/\z4X acc l<2 ^ (8 * (B+l.length)):=by
 intro l
 induction l with
 | nil=>intro acc B _ h0 h1;exact ⟨h0,by simpa [z4X] using h1⟩
 | cons c t ih =>
  intro acc B hc h0 h1;have hcc:=hc c (List.mem_cons_self ..);have h2:acc * 256+c<2 ^ (8 * (B+1)):=by rw[q0s];omega
  have:=ih (acc * 256+c) (B+1) (fun x hx=>hc x (List.mem_cons_of_mem _ hx)) (by omega) h2
  rw[show B+1+t.length=B+(c :: t).length by simp;omega]at this
  exact this
theorem q8b(l:List Int)(j:Nat)(h:j<l.length):z4X 0 (l.take (j+1))=z4X 0 (l.take j) * 256+l.getD j 0:=by
 rw[List.take_succ_eq_append_getElem h,z4X,List.foldl_append]
 simp[z4X,List.getD,h]
theorem j4b(q c:Int)(hq:0<=q)(hq2:q<281474976710656)(hc:0<=c)(hc2:c<256):bits BinOp.or IntKind.i64 (q * 256) (wrap64 c)=q * 256+c:=by
 have hw:wrap64 c=c:=by unfold wrap64;omega
 rw[hw];obtain ⟨a,rfl⟩:=Int.eq_ofNat_of_zero_le hq;obtain ⟨b,rfl⟩:=Int.eq_ofNat_of_zero_le hc
 have hor:a * 256 ||| b=a * 256+b:=by
  have:=Nat.two_pow_add_eq_or_of_lt (i:=8) (b:=b) (by omega) a
  rw[Nat.mul_comm a 256];exact this.symm
 have h1:(BitVec.ofInt 64 ((a * 256:Nat):Int)).toNat=a * 256:=by
  rw[BitVec.ofInt_natCast,BitVec.toNat_ofNat];exact Nat.mod_eq_of_lt (by omega)
 have h2:(BitVec.ofInt 64 (b:Int)).toNat=b:=by
  rw[BitVec.ofInt_natCast,BitVec.toNat_ofNat];exact Nat.mod_eq_of_lt (by omega)
 have e:(a:Int) * 256=((a * 256:Nat):Int):=by omega
 rw[e]
 show IntKind.i64.wrap ((BitVec.ofInt 64 ((a * 256:Nat):Int) ||| BitVec.ofInt 64 (b:Int)).toNat:Int)=_
 rw[BitVec.toNat_or,h1,h2,hor]
 simp[IntKind.wrap,IntKind.bits,IntKind.signed]
 omega
theorem q5f(b:Nat)(st:List Int×Bool)(m:Nat)(w:World)(hT:TS w b st)(hm:m<=7) :
  Calls prog 49 #[.pointer (some ⟨b,0,none⟩),.int .i64 m] w fun e w'=>e=.returned (.int .i64 (tk m st).1)/\TS w' b (tk m st).2/\w.grownBy w' (some b):=by
 obtain ⟨r,hT,hl,hr⟩:=hT;obtain ⟨l,sh⟩:=st;dsimp only at hT hl;subst hl;have hr':=hr;unfold maxLen at hr;obtain ⟨c0,c1,f0,f1⟩:=hT.cells
 by_cases hlt:r.size<m
 ·have e:tk m (bs r,sh)=(0,([],true)):=by rw[tk,if_pos (by rw[z2p];exact hlt)]
  rw[e];have HT:Hid _:=(hT.set1 true).set0 ⟨#[]⟩;clear hT
  go_enter func49,ntmps49
  go_wp2;go_ret;exact ⟨rfl,⟨⟨#[]⟩,HT.out,rfl,by decide⟩,z4C (z3x _ _ _ _) (z3x _ _ _ _)⟩
 ·have e:tk m (bs r,sh)=(z4X 0 ((bs r).take m),((bs r).drop m,sh)):=by rw[tk,if_neg (by rw[z2p];exact hlt)]
  rw[e];have HT:Hid _:=hT.set0 (r.extract m r.size);have HX:Hid _:=z8w r m;clear hT
  go_enter func49,ntmps49
  go_wp2
  go_loop [5,21] (fun n i=>∃ j:Nat,j<=m/\i=.int .i64 j/\n=.int .i64 (z4X 0 ((bs r).take j))) (fun _ i=>m - (intOf i).toNat)
  case atStart=>exact ⟨0,Nat.zero_le _,rfl,by simp[z4X]⟩
  case round =>
   obtain ⟨j,hj,rfl,rfl⟩:=hrel
   by_cases h:j<m
   ·have hjr:j<r.size:=by omega
    have hbd:=z8M ((bs r).take j) 0 0 (fun c hc=>z9y r c (List.mem_of_mem_take hc)) (by omega) (by omega)
    have hlj:((bs r).take j).length=j:=by rw[List.length_take,z2p];omega
    rw[hlj,Nat.zero_add]at hbd;have hb1:0<=z4X 0 ((bs r).take j):=hbd.1
    have hb2:z4X 0 ((bs r).take j)<281474976710656:=by
     have hp:(2:Int) ^ (8 * j)<=281474976710656:=j5c (by omega)
     have:=hbd.2;omega
    have hcb:=r[j].toNat_lt
    have HN:Hid (z4X 0 ((bs r).take (j+1))=z4X 0 ((bs r).take j) * 256+(r[j].toNat:Int)):=by
     show _=_
     rw[q8b _ _ (by rw[z2p];exact hjr),j6M r j hjr]
    clear hbd hlj;generalize z4X 0 ((bs r).take j)=q at *;have HO:Hid _:=j4b q (r[j].toNat:Int) hb1 hb2 (by omega) (by omega)
    clear hcb;go_wp2
    go_round
    case rel=>exact ⟨j+1,by omega,by go_num,by rw[HO.out,HN.out]⟩
    case measure=>simp[intOf];omega
   ·have hjm:j=m:=by omega
    subst hjm;go_wp2;go_ret;exact ⟨rfl,⟨_,HT.out,HX.out,Nat.le_trans (size_ext r j) hr'⟩,z3x _ _ _ _⟩
end Cd
section
open Go.RowKit
structure z2n(w:World)(ao:Option Addr)(b o:Nat)(W:List Wt):Prop where
  adr:0<W.length->ao=some ⟨b,o,none⟩
  len:W.length * 64<=140737488351232
  cell:∀ i x,W[i]?=some x->w.cell? ⟨b,o+i * 8,none⟩=some (.int .i64 x.num)/\w.cell? ⟨b,o+i * 8+1,none⟩=some (.int .i64 x.d)/\w.cell? ⟨b,o+i * 8+2,none⟩=some (.int .i64 x.v)/\w.cell? ⟨b,o+i * 8+3,none⟩=some (.int .i64 x.amt) /\
    w.cell? ⟨b,o+i * 8+4,none⟩=some (.int .i64 x.hei)/\w.cell? ⟨b,o+i * 8+5,none⟩=some (.int .i64 x.due)/\w.cell? ⟨b,o+i * 8+6,none⟩=some (.int .i64 x.h0)/\w.cell? ⟨b,o+i * 8+7,none⟩=some (.int .i64 x.h1)
theorem z2n.later{w w':World}{ao:Option Addr}{b o B:Nat}{W:List Wt}(h:z2n w ao b o W)(hb:Below B w w')(hB:0<W.length->b<B):z2n w' ao b o W:=by
  refine ⟨h.adr,h.len,fun i x hx=>?_⟩;have hlt:b<B:=hB (by have:=(List.getElem?_eq_some_iff.1 hx).1;omega)
  have k:∀ o,w'.cell? ⟨b,o,none⟩=w.cell? ⟨b,o,none⟩:=fun o=>hb.cell hlt;obtain ⟨h0,h1,h2,h3,h4,h5,h6,h7⟩:=h.cell i x hx;exact ⟨(k _).trans h0,(k _).trans h1,(k _).trans h2,(k _).trans h3,(k _).trans h4,(k _).trans h5,(k _).trans h6,(k _).trans h7⟩
theorem z2n.lt{w:World}{ao:Option Addr}{b o:Nat}{W:List Wt}(h:z2n w ao b o W)(h0:0<W.length):b<w.heap.size:=by
  obtain ⟨x,hx⟩:∃ x,W[0]?=some x:=⟨W[0],List.getElem?_eq_getElem h0⟩;exact World.block_lt_of_cell? w _ (h.cell 0 x hx).1
theorem z2n.over{w w':World}{ao:Option Addr}{b o:Nat}{W:List Wt}(h:z2n w ao b o W)(hb:Below w.heap.size w w'):z2n w' ao b o W:=h.later hb h.lt
theorem drop_at{α:Type}{l:List α}{k:Nat}(h:k<l.length):∃ x,l[k]?=some x/\l.drop k=x :: l.drop (k+1):=⟨l[k],List.getElem?_eq_getElem h,List.drop_eq_getElem_cons h⟩
theorem z8q(d:Int)(w:World):Calls prog 105 #[.int .i64 d] w fun e w'=>e=.returned (.bool (decide (0<d) && inA d))/\w=w':=by
  have i1:=z4L d;generalize inA d=t at *
  go_enter func105,ntmps105
  go_wp2_with (go_at_call 147;refine (i1 _).mono ?_;rintro e w5 ⟨rfl,rfl⟩)
  all_goals (go_ret;refine ⟨?_,rfl⟩;congr 1;congr 1;first | (simp_all;done) | (simp_all;omega) | (simp_all;intros;omega))
theorem z9j(W:List Wt)(ao:Option Addr)(b o c:Nat)(next:Int)(w:World)(h:z2n w ao b o W) :
    Calls prog 140 #[.slice ao W.length c,.int .i64 next] w fun e w'=>e=.returned (.bool (wOk next 0 W))/\Below w.heap.size w w':=by
  have hlen:=h.len;have HW:Hid (z2n w ao b o W):=h;have hadr:=h.adr;clear h
  go_enter func140,ntmps140
  go_wp2
  go_loopw [5,10] (fun s5 i wl=>∃ (k:Nat) (last:Int),k<=W.length/\i=.int .i64 (k:Int)/\s5=.int .i64 last/\Hid (wOk next 0 W=wOk next last (W.drop k)/\Below w.heap.size w wl)) (fun _ i _=>W.length - (intOf i).toNat)
  case atStart=>exact ⟨0,0,Nat.zero_le _,rfl,rfl,rfl,Below.refl _ _⟩
  case round =>
    obtain ⟨k,last,hk,rfl,rfl,HR⟩:=hrel
    by_cases hlt:k<W.length
    · obtain ⟨x,hx,hd⟩:=drop_at hlt
      have HB:Hid (Below w.heap.size w wr):=HR.out.2;obtain ⟨c0,c1,c2,c3,c4,c5,c6,c7⟩:=(HW.out.over HB.out).cell k x hx;have HE:Hid (wOk next 0 W=(q0p last next x && wOk next x.num (W.drop (k+1)))):=by have:=HR.out.1;rw[hd]at this;exact this
      clear HR hd;obtain rfl:=hadr (by omega)
      clear hadr;have hsz:w.heap.size<=wr.heap.size:=HB.out.size;have j1:=z8C x.d;have j2:=z6N x.v;have j3:=z4L x.amt;have HO:Hid (∀ last,q0p last next x=(decide (last<x.num) && decide (x.num<next) && isD x.d && isV x.v && inA x.amt && decide (0<=x.hei) && decide (0<=x.due))):=fun _=>rfl
      generalize isD x.d=t1 at *;generalize isV x.v=t2 at *;generalize inA x.amt=t3 at *
      go_wp2_with (first
        | (go_at_call 146;refine (j1 _).mono ?_;rintro e w5 ⟨rfl,rfl⟩)
        | (go_at_call 48;refine (j2 _).mono ?_;rintro e w6 ⟨rfl,rfl⟩)
        | (go_at_call 147;refine (j3 _).mono ?_;rintro e w7 ⟨rfl,rfl⟩))
      all_goals first
        | (go_ret;refine ⟨?_,HB.out.alloc hsz _⟩;rw[HE.out,HO.out];congr 1;congr 1;first | (simp_all;done) | (simp_all;omega) | (simp_all;intros;omega))
        | (go_roundw
           case rel=>exact ⟨k+1,x.num,by omega,by go_num,rfl,(by rw[HE.out,HO.out];simp_all),HB.out.alloc hsz _⟩
           case measure=>simp[intOf];omega)
    · go_wp2
      go_ret;refine ⟨?_,HR.out.2⟩;rw[HR.out.1,List.drop_eq_nil_of_le (by omega)]
      rfl
theorem z0t:(prog.info? 43).map (·.size)=some 63:=by kernel_rfl
def SAt(w:World)(b:Nat)(cs:Array Value):Prop:=w.heap[b]?=some (.cells cs 43)
theorem SAt.new(w:World)(cs:Array Value):SAt (w.alloc (.cells cs 43)) w.heap.size cs:=heap_alloc_new _ _
theorem SAt.new2(w:World)(o:Obj)(cs:Array Value):SAt ((w.alloc o).alloc (.cells cs 43)) (w.heap.size+1) cs:=by
 have h:SAt ((w.alloc o).alloc (.cells cs 43)) (w.alloc o).heap.size cs:=SAt.new (w.alloc o) cs
 rwa [show (w.alloc o).heap.size=w.heap.size+1 by simp]at h
theorem SAt.later{w w':World}{b B:Nat}{cs:Array Value}(h:SAt w b cs)(hb:Below B w w')(hB:b<B):SAt w' b cs:=(hb.block b hB).trans h
theorem SAt.alloc{w:World}{b:Nat}{cs:Array Value}(h:SAt w b cs)(o:Obj):SAt (w.alloc o) b cs:=(Below.heap_alloc _ _ _ (Array.getElem?_eq_some_iff.1 h).1).trans h
theorem SAt.lt{w:World}{b:Nat}{cs:Array Value}(h:SAt w b cs):b<w.heap.size:=(Array.getElem?_eq_some_iff.1 h).1
theorem SAt.other{w:World}{b c o:Nat}{cs:Array Value}(h:SAt w b cs)(hb:b≠c)(v:Value):SAt (w.setCell ⟨c,o,none⟩ v) b cs:=(Below.heap_setCell _ _ _ _ hb).trans h
theorem SAt.cell{w:World}{b:Nat}{cs:Array Value}(h:SAt w b cs)(o:Nat):w.cell? ⟨b,o,none⟩=cs[o]?:=by
 unfold SAt at h
 simp[World.cell?,h]
theorem SAt.free{w:World}{b:Nat}{cs:Array Value}(h:SAt w b cs)(o:Nat):w.frozen? ⟨b,o,none⟩=false:=by
 unfold SAt at h
 simp[World.frozen?,h]
theorem SAt.set{w:World}{b:Nat}{cs:Array Value}(h:SAt w b cs)(o:Nat)(v:Value):SAt (w.setCell ⟨b,o,none⟩ v) b (cs.setIfInBounds o v):=by
 unfold SAt at *
 simp[World.setCell,Array.getElem?_modify,h]
theorem SAt.range{w:World}{b:Nat}{cs:Array Value}(h:SAt w b cs):w.rangeAt b 0 cs.toList:=by
 intro j v hv;rw[Nat.zero_add,h.cell]
 simpa using hv
theorem SAt.there{w:World}{b:Nat}{cs:Array Value}(h:SAt w b cs)(o n:Nat)(hn:o+n<=cs.size):w.there b o n:=by
 intro j hj;rw[h.cell,h.free];have:o+j<cs.size:=by omega
 simp[this]
theorem SAt.sets{b:Nat}:∀ (vs:List Value) (o:Nat) (w:World) (cs:Array Value),SAt w b cs->SAt (w.setCells b o vs) b (spl cs o vs)
 | [],_,_,_,h=>h
 | v :: r,o,_,_,h=>SAt.sets r (o+1) _ _ (h.set o v)
theorem SAt.z0G{w:World}{b:Nat}{cs ds:Array Value}(h:SAt w b cs)(hd:ds.size=cs.size):SAt (w.setCells b 0 ds.toList) b ds:=by
 have:=SAt.sets ds.toList 0 w cs h
 rwa [q9E hd]at this
theorem SAt.load{w:World}{b:Nat}{cs:Array Value}(h:SAt w b cs)(hs:cs.size=63):(Instr.loadAt 43 (.pointer (some ⟨b,0,none⟩))).run prog w=.ok (.agg cs) w:=by
 have:=run_loadAt_mid (P:=prog) w b 0 43 cs.toList _ h.range underlying43 rfl (by rw[z0t];simp[hs])
 simpa using this
def Z63:Array Value:=#[.int .i64 0,.int .i64 0,.int .i64 0,.int .i64 0,.int .i64 0,.int .i64 0,.int .i64 0,.int .i64 0,.int .i64 0,.int .i64 0,.bool false,.bool false,.int .i64 0,.int .i64 0,.int .i64 0,.bool false,.bool false,.int .i64 0,.int .i64 0,.int .i64 0,.bool false,.bool false,.int .i64 0,.int .i64 0,.int .i64 0,.bool false,.bool false,.int .i64 0,.int .i64 0,.int .i64 0,.bool false,.bool false,.int .i64 0,.int .i64 0,.int .i64 0,.bool false,.bool false,.int .i64 0,.int .i64 0,.int .i64 0,.int .i64 0,.int .i64 0,.int .i64 0,.int .i64 0,.int .i64 0,.int .i64 0,.int .i64 0,.int .i64 0,.int .i64 0,.int .i64 0,.int .i64 0,.int .i64 0,.int .i64 0,.int .i64 0,.int .i64 0,.int .i64 0,.int .i64 0,.int .i64 0,.int .i64 0,.int .i64 0,.int .i64 0,.slice none 0 0,.int .i64 0]
def vsC(V:Nat->Vd):Array Value:=#[.int .i64 (V 0).tok,.int .i64 (V 0).sh,.int .i64 (V 0).lost,.bool (V 0).jail,.bool (V 0).dead,.int .i64 (V 1).tok,.int .i64 (V 1).sh,.int .i64 (V 1).lost,.bool (V 1).jail,.bool (V 1).dead,.int .i64 (V 2).tok,.int .i64 (V 2).sh,.int .i64 (V 2).lost,.bool (V 2).jail,.bool (V 2).dead,.int .i64 (V 3).tok,.int .i64 (V 3).sh,.int .i64 (V 3).lost,.bool (V 3).jail,.bool (V 3).dead,.int .i64 (V 4).tok,.int .i64 (V 4).sh,.int .i64 (V 4).lost,.bool (V 4).jail,.bool (V 4).dead,.int .i64 (V 5).tok,.int .i64 (V 5).sh,.int .i64 (V 5).lost,.bool (V 5).jail,.bool (V 5).dead]
def shC(S:Nat->Nat->Int):Array Value:=#[.int .i64 (S 0 0),.int .i64 (S 0 1),.int .i64 (S 0 2),.int .i64 (S 0 3),.int .i64 (S 0 4),.int .i64 (S 0 5),.int .i64 (S 1 0),.int .i64 (S 1 1),.int .i64 (S 1 2),.int .i64 (S 1 3),.int .i64 (S 1 4),.int .i64 (S 1 5),.int .i64 (S 2 0),.int .i64 (S 2 1),.int .i64 (S 2 2),.int .i64 (S 2 3),.int .i64 (S 2 4),.int .i64 (S 2 5),.int .i64 (S 3 0),.int .i64 (S 3 1),.int .i64 (S 3 2),.int .i64 (S 3 3),.int .i64 (S 3 4),.int .i64 (S 3 5)]
def bkC(b:Bk):Array Value:=#[.int .i64 b.f0,.int .i64 b.f1,.int .i64 b.f2,.int .i64 b.f3,.int .i64 b.bo,.int .i64 b.wa,.int .i64 b.bu]
def stL(b:Bk)(V:Nat->Vd)(S:Nat->Nat->Int)(sl:Value)(next:Int):List Value:=(bkC b).toList ++ ((vsC V).toList ++ ((shC S).toList ++ [sl,.int .i64 next]))
def stC(s:St)(sl:Value):Array Value:=(stL s.b s.V s.S sl s.next).toArray
theorem z0f(s:St)(sl:Value):(stC s sl).size=63:=rfl
theorem j4M{w:World}{b:Nat}{s:St}{sl:Value}(h:SAt w b (stC s sl)):w.rangeAt b 7 (vsC s.V).toList:=by
 intro j v hv;have hj:j<30:=(List.getElem?_eq_some_iff.1 hv).1;rw[h.cell];simp only[stC,stL,List.getElem?_toArray];rw[List.getElem?_append_right (by show 7<=7+j;omega),show 7+j - (bkC s.b).toList.length=j from by show 7+j - 7=j;omega,List.getElem?_append_left (show j<(vsC s.V).toList.length from hj)]
 exact hv
theorem z0p{w:World}{b:Nat}{s:St}{sl:Value}(h:SAt w b (stC s sl)):w.cell? ⟨b,0,none⟩=some (.int .i64 s.b.f0)/\w.cell? ⟨b,1,none⟩=some (.int .i64 s.b.f1)/\w.cell? ⟨b,2,none⟩=some (.int .i64 s.b.f2)/\w.cell? ⟨b,3,none⟩=some (.int .i64 s.b.f3)/\w.cell? ⟨b,4,none⟩=some (.int .i64 s.b.bo)/\w.cell? ⟨b,5,none⟩=some (.int .i64 s.b.wa)/\w.cell? ⟨b,6,none⟩=some (.int .i64 s.b.bu)/\w.cell? ⟨b,61,none⟩=some sl/\w.cell? ⟨b,62,none⟩=some (.int .i64 s.next):=
 ⟨(h.cell 0).trans rfl,(h.cell 1).trans rfl,(h.cell 2).trans rfl,(h.cell 3).trans rfl,(h.cell 4).trans rfl,(h.cell 5).trans rfl,(h.cell 6).trans rfl,(h.cell 61).trans rfl,(h.cell 62).trans rfl⟩
theorem q7w:(prog.info? 38).map (·.size)=some 30:=by kernel_rfl
theorem ixV(w:World)(V:Nat->Vd)(k:Nat)(hk:k<6):(Instr.index 38 (.agg (vsC V)) (.int .i64 k)).run prog w=.ok (.agg #[.int .i64 (V k).tok,.int .i64 (V k).sh,.int .i64 (V k).lost,.bool (V k).jail,.bool (V k).dead]) w:=by
 rcases (show k=0∨k=1∨k=2∨k=3∨k=4∨k=5 by omega) with rfl | rfl | rfl | rfl | rfl | rfl <;> kernel_rfl
theorem SAt.val{w:World}{b:Nat}{s:St}{sl:Value}(h:SAt w b (stC s sl))(k:Nat)(hk:k<6):w.cell? ⟨b,7+k * 5,none⟩=some (.int .i64 (s.V k).tok)/\w.cell? ⟨b,7+k * 5+1,none⟩=some (.int .i64 (s.V k).sh)/\w.cell? ⟨b,7+k * 5+2,none⟩=some (.int .i64 (s.V k).lost)/\w.cell? ⟨b,7+k * 5+3,none⟩=some (.bool (s.V k).jail)/\w.cell? ⟨b,7+k * 5+4,none⟩=some (.bool (s.V k).dead):=by
 rcases (show k=0∨k=1∨k=2∨k=3∨k=4∨k=5 by omega) with rfl | rfl | rfl | rfl | rfl | rfl <;> exact ⟨(h.cell _).trans rfl,(h.cell _).trans rfl,(h.cell _).trans rfl,(h.cell _).trans rfl,(h.cell _).trans rfl⟩
theorem SAt.shr{w:World}{b:Nat}{s:St}{sl:Value}(h:SAt w b (stC s sl))(d v:Nat)(hd:d<4)(hv:v<6):w.cell? ⟨b,37+d * 6+v,none⟩=some (.int .i64 (s.S d v)):=by
 rcases (show d=0∨d=1∨d=2∨d=3 by omega) with rfl | rfl | rfl | rfl <;> rcases (show v=0∨v=1∨v=2∨v=3∨v=4∨v=5 by omega) with rfl | rfl | rfl | rfl | rfl | rfl <;> exact (h.cell _).trans rfl
theorem z0x(s:St)(sa:Option Addr)(n c:Nat):(stC s (.slice sa n c)).all (·.oneCell')=true:=by simp[stC,stL,bkC,vsC,shC,Value.oneCell']
theorem z5M{f:Nat}{args:Array Value}{w0 w:World}{b:Nat}{v:Value}{f0 f1 f2 f3 bo wa bu:Int}(h:Calls prog f args w fun e w'=>e=.returned v/\Below w.heap.size w w')
  (hb:b<w0.heap.size) (hS:w.cell? ⟨b,0,none⟩=some (.int .i64 f0)/\w.cell? ⟨b,1,none⟩=some (.int .i64 f1)/\w.cell? ⟨b,2,none⟩=some (.int .i64 f2)/\w.cell? ⟨b,3,none⟩=some (.int .i64 f3)/\w.cell? ⟨b,4,none⟩=some (.int .i64 bo)/\w.cell? ⟨b,5,none⟩=some (.int .i64 wa)/\w.cell? ⟨b,6,none⟩=some (.int .i64 bu)/\Below w0.heap.size w0 w) :
  Calls prog f args w fun e w'=>e=.returned v/\w'.cell? ⟨b,0,none⟩=some (.int .i64 f0)/\w'.cell? ⟨b,1,none⟩=some (.int .i64 f1)/\w'.cell? ⟨b,2,none⟩=some (.int .i64 f2)/\w'.cell? ⟨b,3,none⟩=some (.int .i64 f3)/\w'.cell? ⟨b,4,none⟩=some (.int .i64 bo)/\w'.cell? ⟨b,5,none⟩=some (.int .i64 wa)/\w'.cell? ⟨b,6,none⟩=some (.int .i64 bu)/\Below w0.heap.size w0 w':=by
 refine h.mono ?_;rintro e w' ⟨rfl,hb'⟩;obtain ⟨h0,h1,h2,h3,h4,h5,h6,hB⟩:=hS;have k:∀ o,w'.cell? ⟨b,o,none⟩=w.cell? ⟨b,o,none⟩:=fun o=>hb'.cell (Nat.lt_of_lt_of_le hb hB.size);exact ⟨rfl,(k 0).trans h0,(k 1).trans h1,(k 2).trans h2,(k 3).trans h3,(k 4).trans h4,(k 5).trans h5,(k 6).trans h6,hB.trans (hb'.mono hB.size)⟩
theorem z0g{n:Int}(h0:-9223372036854775808<=n)(h1:n<9223372036854775808):wrap64 n=n:=by
 unfold wrap64;omega
theorem j5I(f0 f1 f2 f3 bo wa bu:Int)(w:World)(y0 y1 y2 y3 y4 y5 y6:Int)(hne:∀ w,(binOp .eql 35 (.agg #[.int .i64 y0,.int .i64 y1,.int .i64 y2,.int .i64 y3,.int .i64 y4,.int .i64 y5,.int .i64 y6]) (.agg #[.int .i64 f0,.int .i64 f1,.int .i64 f2,.int .i64 f3,.int .i64 bo,.int .i64 wa,.int .i64 bu])).run prog w=.ok (.bool false) w)
  (hcl:∀ w,Calls prog 168 #[.agg #[.int .i64 f0,.int .i64 f1,.int .i64 f2,.int .i64 f3,.int .i64 bo,.int .i64 wa,.int .i64 bu]] w fun e w'=>e=.returned (.agg #[.int .i64 y0,.int .i64 y1,.int .i64 y2,.int .i64 y3,.int .i64 y4,.int .i64 y5,.int .i64 y6])/\Below w.heap.size w w') :
  Calls prog 139 #[.agg #[.int .i64 f0,.int .i64 f1,.int .i64 f2,.int .i64 f3,.int .i64 bo,.int .i64 wa,.int .i64 bu]] w fun e w'=>e=.returned (.bool false)/\Below w.heap.size w w':=by
 go_enter func139,ntmps139
 go_wp2_with fail
 have HB0:Hid (Below w.heap.size w (w.alloc (.cells #[.int .i64 f0,.int .i64 f1,.int .i64 f2,.int .i64 f3,.int .i64 bo,.int .i64 wa,.int .i64 bu] 35))):=znw w _;have B0:=BAt.new w f0 f1 f2 f3 bo wa bu;have hlt:w.heap.size<(w.alloc (.cells #[.int .i64 f0,.int .i64 f1,.int .i64 f2,.int .i64 f3,.int .i64 bo,.int .i64 wa,.int .i64 bu] 35)).heap.size:=by simp
 generalize w.alloc (.cells #[.int .i64 f0,.int .i64 f1,.int .i64 f2,.int .i64 f3,.int .i64 bo,.int .i64 wa,.int .i64 bu] 35)=w0 at *;obtain ⟨x0,x1,x2,x3,x4,x5,x6⟩:=id B0.cells;clear B0;have hbb:Below w0.heap.size w0 w0.drew:=(Below.refl _ _).drew
 go_region_with (go_at_call 168;refine (z5M (f0:=f0) (f1:=f1) (f2:=f2) (f3:=f3) (bo:=bo) (wa:=wa) (bu:=bu) (hcl _) hlt ?_).mono ?_;(simp[*]);rintro e wA ⟨rfl,z0,z1,z2,z3,z4,z5,z6,hA⟩)
 all_goals
  have HF:Hid (Below w.heap.size w wA):=HB0.out.trans (hA.mono (Nat.le_of_lt hlt));clear hA;go_wp2;go_ret;exact ⟨rfl,HF.out⟩
theorem j0G(f0 f1 f2 f3 bo wa bu s:Int)(r:Bool)(w:World)(heq:∀ w,(binOp .eql 35 (.agg #[.int .i64 f0,.int .i64 f1,.int .i64 f2,.int .i64 f3,.int .i64 bo,.int .i64 wa,.int .i64 bu]) (.agg #[.int .i64 f0,.int .i64 f1,.int .i64 f2,.int .i64 f3,.int .i64 bo,.int .i64 wa,.int .i64 bu])).run prog w=.ok (.bool true) w)
  (hcl:∀ w,Calls prog 168 #[.agg #[.int .i64 f0,.int .i64 f1,.int .i64 f2,.int .i64 f3,.int .i64 bo,.int .i64 wa,.int .i64 bu]] w fun e w'=>e=.returned (.agg #[.int .i64 f0,.int .i64 f1,.int .i64 f2,.int .i64 f3,.int .i64 bo,.int .i64 wa,.int .i64 bu])/\Below w.heap.size w w')
  (hsum:∀ w,Calls prog 169 #[.agg #[.int .i64 f0,.int .i64 f1,.int .i64 f2,.int .i64 f3,.int .i64 bo,.int .i64 wa,.int .i64 bu]] w fun e w'=>e=.returned (.int .i64 s)/\Below w.heap.size w w') (hr:(s == 400000)=r) :
  Calls prog 139 #[.agg #[.int .i64 f0,.int .i64 f1,.int .i64 f2,.int .i64 f3,.int .i64 bo,.int .i64 wa,.int .i64 bu]] w fun e w'=>e=.returned (.bool r)/\Below w.heap.size w w':=by
 go_enter func139,ntmps139
 go_wp2_with fail
 have HB0:Hid (Below w.heap.size w (w.alloc (.cells #[.int .i64 f0,.int .i64 f1,.int .i64 f2,.int .i64 f3,.int .i64 bo,.int .i64 wa,.int .i64 bu] 35))):=znw w _;have B0:=BAt.new w f0 f1 f2 f3 bo wa bu;have hlt:w.heap.size<(w.alloc (.cells #[.int .i64 f0,.int .i64 f1,.int .i64 f2,.int .i64 f3,.int .i64 bo,.int .i64 wa,.int .i64 bu] 35)).heap.size:=by simp
 generalize w.alloc (.cells #[.int .i64 f0,.int .i64 f1,.int .i64 f2,.int .i64 f3,.int .i64 bo,.int .i64 wa,.int .i64 bu] 35)=w0 at *;obtain ⟨x0,x1,x2,x3,x4,x5,x6⟩:=id B0.cells;clear B0;have hbb:Below w0.heap.size w0 w0.drew:=(Below.refl _ _).drew
 go_region_held3 (fun w'=>w'.cell? ⟨w.heap.size,0,none⟩=some (.int .i64 f0)/\w'.cell? ⟨w.heap.size,1,none⟩=some (.int .i64 f1)/\w'.cell? ⟨w.heap.size,2,none⟩=some (.int .i64 f2)/\w'.cell? ⟨w.heap.size,3,none⟩=some (.int .i64 f3)/\w'.cell? ⟨w.heap.size,4,none⟩=some (.int .i64 bo)/\w'.cell? ⟨w.heap.size,5,none⟩=some (.int .i64 wa)/\w'.cell? ⟨w.heap.size,6,none⟩=some (.int .i64 bu)/\Below w0.heap.size w0 w') (go_keep)
  (first
   | (go_at_call 168;refine (z5M (f0:=f0) (f1:=f1) (f2:=f2) (f3:=f3) (bo:=bo) (wa:=wa) (bu:=bu) (hcl _) hlt ?_).mono ?_;(simp[*]);rintro e wA ⟨rfl,hA⟩)
   | (go_at_call 169;refine (z5M (f0:=f0) (f1:=f1) (f2:=f2) (f3:=f3) (bo:=bo) (wa:=wa) (bu:=bu) (hsum _) hlt ?_).mono ?_;(simp[*]);rintro e wB ⟨rfl,hB⟩))
 have HF:Hid (Below w.heap.size w wB):=HB0.out.trans (hB.2.2.2.2.2.2.2.mono (Nat.le_of_lt hlt));clear hA hB;go_wp2;go_ret;exact ⟨rfl,HF.out⟩
theorem j2M(n:Int):cl n=n↔0<=n/\n<=400000:=by
 unfold cl;omega
theorem z0l(f0 f1 f2 f3 bo wa bu:Int)(w:World):Calls prog 139 #[.agg #[.int .i64 f0,.int .i64 f1,.int .i64 f2,.int .i64 f3,.int .i64 bo,.int .i64 wa,.int .i64 bu]] w fun e w'=>e=.returned (.bool (z1s f0 f1 f2 f3 bo wa bu))/\Below w.heap.size w w':=by
 have hc:=q1H f0 f1 f2 f3 bo wa bu;have he:=fun w=>eqB w (cl f0) (cl f1) (cl f2) (cl f3) (cl bo) (cl wa) (cl bu) f0 f1 f2 f3 bo wa bu
 by_cases h:cl f0=f0/\cl f1=f1/\cl f2=f2/\cl f3=f3/\cl bo=bo/\cl wa=wa/\cl bu=bu
 ·rw[decide_eq_true h]at he;obtain ⟨h0,h1,h2,h3,h4,h5,h6⟩:=h;rw[h0,h1,h2,h3,h4,h5,h6]at hc he;rw[j2M]at h0 h1 h2 h3 h4 h5 h6;refine j0G f0 f1 f2 f3 bo wa bu _ _ w he hc (j5w f0 f1 f2 f3 bo wa bu) ?_;rw[z0g (by omega) (by omega)]
  unfold z1s
  simp[h0,h1,h2,h3,h4,h5,h6]
  rfl
 ·rw[decide_eq_false h]at he
  have hn:z1s f0 f1 f2 f3 bo wa bu=false:=by
   unfold z1s;refine decide_eq_false fun g=>h ?_;simp only[j2M];exact ⟨g.1,g.2.1,g.2.2.1,g.2.2.2.1,g.2.2.2.2.1,g.2.2.2.2.2.1,g.2.2.2.2.2.2.1⟩
  rw[hn];exact j5I f0 f1 f2 f3 bo wa bu w _ _ _ _ _ _ _ he hc
theorem z0R{w wq:World}(R:BAt wq (w.heap.size+1) 0 0 0 0 0 0 0)(H:Below w.heap.size w wq)(r0 r1 r2 r3 r4 r5 r6 er:Int)(act:Act)
  (h8:act.tmps.getD 8 undef=.pointer (some ⟨w.heap.size+1,0,none⟩)) (h9:act.tmps.getD 9 undef=.int .i64 er) (hd:act.defers=[]) :
  bodyPost prog f150 (fun e w'=>e=.returned (.tuple #[.agg #[.int .i64 r0,.int .i64 r1,.int .i64 r2,.int .i64 r3,.int .i64 r4,.int .i64 r5,.int .i64 r6],.int .i64 er])/\Below w.heap.size w w') Exit.ret act
   (z6i wq (w.heap.size+1) r0 r1 r2 r3 r4 r5 r6):=by
 have HR:=R.z6i r0 r1 r2 r3 r4 r5 r6;have HW:=z2U (b:=w.heap.size+1) H (by omega) r0 r1 r2 r3 r4 r5 r6
 generalize z6i wq (w.heap.size+1) r0 r1 r2 r3 r4 r5 r6=w9 at *;obtain ⟨u0,u1,u2,u3,u4,u5,u6⟩:=HR.cells;have h8':act.tmps[8]?.getD undef=.pointer (some ⟨w.heap.size+1,0,none⟩):=by simpa using h8
 have h9':act.tmps[9]?.getD undef=.int .i64 er:=by simpa using h9
 exact bodyPost_ret (v:=.tuple #[.agg #[.int .i64 r0,.int .i64 r1,.int .i64 r2,.int .i64 r3,.int .i64 r4,.int .i64 r5,.int .i64 r6],.int .i64 er]) (by simp[results,results150,go_sem,h8',h9',u0,u1,u2,u3,u4,u5,u6]) hd ⟨rfl,HW⟩
theorem z1n{w w1:World}{f0 f1 f2 f3 bo wa bu:Int}(hb:Below ((w.alloc (.cells #[.int .i64 f0,.int .i64 f1,.int .i64 f2,.int .i64 f3,.int .i64 bo,.int .i64 wa,.int .i64 bu] 35)).alloc (.cells #[.int .i64 0,.int .i64 0,.int .i64 0,.int .i64 0,.int .i64 0,.int .i64 0,.int .i64 0] 35)).heap.size ((w.alloc (.cells #[.int .i64 f0,.int .i64 f1,.int .i64 f2,.int .i64 f3,.int .i64 bo,.int .i64 wa,.int .i64 bu] 35)).alloc (.cells #[.int .i64 0,.int .i64 0,.int .i64 0,.int .i64 0,.int .i64 0,.int .i64 0,.int .i64 0] 35)) w1):BAt w1 w.heap.size f0 f1 f2 f3 bo wa bu/\BAt w1 (w.heap.size+1) 0 0 0 0 0 0 0/\Hid (Below w.heap.size w w1):=by
 refine ⟨((BAt.new w f0 f1 f2 f3 bo wa bu).alloc (.cells #[.int .i64 0,.int .i64 0,.int .i64 0,.int .i64 0,.int .i64 0,.int .i64 0,.int .i64 0] 35)).later hb (by simp;omega),?_,((znw w _).alloc (by simp) _).trans (hb.mono (by simp;omega))⟩
 have:=(BAt.new (w.alloc (.cells #[.int .i64 f0,.int .i64 f1,.int .i64 f2,.int .i64 f3,.int .i64 bo,.int .i64 wa,.int .i64 bu] 35)) 0 0 0 0 0 0 0).later hb (by simp)
 simpa using this
end
namespace Mt
open Go.RowKit
def I64(a:Int):Prop:=-9223372036854775808<=a/\a<=9223372036854775807
def alw(a:Int):Int:=if a<5 then 1 else a / 5
theorem j8s(a:Int):1<=alw a:=by unfold alw;split <;> omega
theorem z0s(w:World)(o:Obj):Below w.heap.size w (w.alloc o):=znw _ o
theorem z1Q{w w1 w2:World}(h:Below w.heap.size w w1)(k:Below w1.heap.size w1 w2):Below w.heap.size w w2:=zbt h k
theorem j9f{a:Int}(h:I64 a)(h5:5<=a):wrap64 (a.tdiv 5)=a / 5:=by
 unfold I64 at h;rw[Int.tdiv_eq_ediv_of_nonneg (by omega)]
 unfold wrap64;omega
theorem j8r{a:Int}(h:I64 a)(h5:a<5):∃ q,wrap64 (a.tdiv 5)=q/\q<1:=by
 refine ⟨_,rfl,?_⟩;unfold I64 at h
 by_cases h0:0<=a
 ·rw[Int.tdiv_eq_ediv_of_nonneg (by omega)]
  unfold wrap64;omega
 ·have e:a.tdiv 5=-((-a) / 5):=by
   rw[show a=-(-a) by omega,Int.neg_tdiv,Int.tdiv_eq_ediv_of_nonneg (by omega)]
   simp
  rw[e];unfold wrap64;omega
theorem j5o(a:Int)(h:I64 a)(w:World):Calls prog 19 #[.int .i64 a] w fun e w'=>e=.returned (.int .i64 (alw a))/\w=w':=by
 by_cases h5:a<5
 ·obtain ⟨q,hq,hq1⟩:=j8r h h5;rw[show alw a=1 from if_pos h5];clear h5 h
  go_enter func19,ntmps19
  go_wp2;go_ret;exact ⟨rfl,rfl⟩
 ·have hq:=j9f h (by omega)
  rw[show alw a=a / 5 from if_neg h5];have hq1:1<=a / 5:=by omega
  generalize a / 5=q at *;clear h5 h
  go_enter func19,ntmps19
  go_wp2;go_ret;exact ⟨rfl,rfl⟩
def MAt(w:World)(b:Nat)(l n:Int):Prop:=w.heap[b]?=some (.cells #[.int .i64 l,.int .i64 n] 54)
section
variable {w w':World} {b B:Nat} {l n:Int}
theorem MAt.later(h:MAt w b l n)(hb:Below B w w')(hB:b<B):MAt w' b l n:=(hb.block b hB).trans h
theorem MAt.new(w:World)(l n:Int):MAt (w.alloc (.cells #[.int .i64 l,.int .i64 n] 54)) w.heap.size l n:=heap_alloc_new _ _
theorem MAt.new2(w:World)(o:Obj)(l n:Int):MAt ((w.alloc o).alloc (.cells #[.int .i64 l,.int .i64 n] 54)) (w.heap.size+1) l n:=by
 have:=MAt.new (w.alloc o) l n
 rwa [show (w.alloc o).heap.size=w.heap.size+1 by simp]at this
theorem MAt.lt(h:MAt w b l n):b<w.heap.size:=(Array.getElem?_eq_some_iff.1 h).1
theorem MAt.facts(h:MAt w b l n):(w.cell? ⟨b,0,none⟩=some (.int .i64 l)/\w.cell? ⟨b,1,none⟩=some (.int .i64 n))/\(w.frozen? ⟨b,0,none⟩=false/\w.frozen? ⟨b,1,none⟩=false):=by
 unfold MAt at h
 simp[World.cell?,World.frozen?,h]
theorem MAt.set(h:MAt w b l n)(l' n':Int):MAt ((w.setCell ⟨b,0,none⟩ (.int .i64 l')).setCell ⟨b,1,none⟩ (.int .i64 n')) b l' n':=by
 unfold MAt at *
 simp[World.setCell,Array.getElem?_modify,h]
end
theorem z7g{f:Func}{p:Tmp}(hres:f.results=#[.cell p 54]){w wq:World}{g:Nat}{l n:Int}(R:MAt wq g l n)(H:Below w.heap.size w wq)(act:Act)(h8:act.tmps.getD p undef=.pointer (some ⟨g,0,none⟩))(hd:act.defers=[]) :
  bodyPost prog f (fun e w'=>e=.returned (.agg #[.int .i64 l,.int .i64 n])/\Below w.heap.size w w') Exit.ret act wq:=by
 obtain ⟨⟨u0,u1⟩,-⟩:=R.facts;have h8':act.tmps[p]?.getD undef=.pointer (some ⟨g,0,none⟩):=by simpa using h8
 exact bodyPost_ret (v:=.agg #[.int .i64 l,.int .i64 n]) (by simp[results,hres,go_sem,h8',u0,u1]) hd ⟨rfl,H⟩
theorem z8P{f:Func}{p q:Tmp}(hres:f.results=#[.cell p 54,.tmp q]){w wq:World}{g:Nat}{l n:Int}{t:Bool}(R:MAt wq g l n)(H:Below w.heap.size w wq)(act:Act)(h8:act.tmps.getD p undef=.pointer (some ⟨g,0,none⟩))(h9:act.tmps.getD q undef=.bool t)(hd:act.defers=[]) :
  bodyPost prog f (fun e w'=>e=.returned (.tuple #[.agg #[.int .i64 l,.int .i64 n],.bool t])/\Below w.heap.size w w') Exit.ret act wq:=by
 obtain ⟨⟨u0,u1⟩,-⟩:=R.facts;have h8':act.tmps[p]?.getD undef=.pointer (some ⟨g,0,none⟩):=by simpa using h8
 have h9':act.tmps[q]?.getD undef=.bool t:=by simpa using h9
 exact bodyPost_ret (v:=.tuple #[.agg #[.int .i64 l,.int .i64 n],.bool t]) (by simp[results,hres,go_sem,h8',h9',u0,u1]) hd ⟨rfl,H⟩
theorem z9w(w:World)(o p:Obj):Below w.heap.size w ((w.alloc o).alloc p):=(z0s w o).alloc (by simp) p
theorem q2x(a t:Int)(h:I64 a)(w:World):Calls prog 36 #[.int .i64 a,.int .i64 t] w fun e w'=>e=.returned (.agg #[.int .i64 (alw a),.int .i64 (wrap64 (t+10))])/\Below w.heap.size w w':=by
 have ha:=j5o a h;generalize alw a=A at *
 go_enter func36,ntmps36
 go_wp2_with (go_at_call 19;refine (ha _).mono ?_;rintro e w2 ⟨rfl,rfl⟩)
 exact z7g results36 (MAt.new _ _ _) (z0s w _) _ rfl rfl
theorem q9k(l n a t:Int)(h:I64 a)(w:World):Calls prog 82 #[.agg #[.int .i64 l,.int .i64 n],.int .i64 a,.int .i64 t] w fun e w'=>e=.returned (.agg #[.int .i64 (if t<n then l else alw a),.int .i64 (if t<n then n else wrap64 (t+10))])/\Below w.heap.size w w':=by
 have hn:=q2x a t h;generalize alw a=A at *;generalize wrap64 (t+10)=T at *
 by_cases hlt:t<n
 ·rw[if_pos hlt,if_pos hlt]
  go_enter func82,ntmps82
  go_wp2;exact z7g results82 (MAt.new2 _ _ _ _) (z9w w _ _) _ rfl rfl
 ·rw[if_neg hlt,if_neg hlt];have R:=MAt.new2 w (.cells #[.int .i64 l,.int .i64 n] 54) 0 0;have B:=z9w w (.cells #[.int .i64 l,.int .i64 n] 54) (.cells #[.int .i64 0,.int .i64 0] 54)
  go_enter func82,ntmps82
  go_upto_region 3 with fail
  generalize ((w.alloc (.cells #[.int .i64 l,.int .i64 n] 54)).alloc (.cells #[.int .i64 0,.int .i64 0] 54))=w1 at *
  go_wp2_with (go_at_call 36;refine (hn _).mono ?_;rintro e w2 ⟨rfl,hb⟩;have R2:=R.later hb R.lt;obtain ⟨⟨c0,c1⟩,⟨f0,f1⟩⟩:=R2.facts)
  exact z7g results82 (R2.set _ _) (((z1Q B hb).setCell (Nat.le_succ _) _).setCell (Nat.le_succ _) _) _ rfl rfl
theorem q8T(l n a:Int)(w:World):Calls prog 176 #[.agg #[.int .i64 l,.int .i64 n],.int .i64 a] w fun e w'=>e=.returned (.tuple #[.agg #[.int .i64 (if l<1 then l else wrap64 (l - a)),.int .i64 n],.bool (if l<1 then false else true)])/\Below w.heap.size w w':=by
 by_cases hlt:l<1
 ·rw[if_pos hlt,if_pos hlt]
  go_enter func176,ntmps176
  go_wp2;exact z8P results176 (MAt.new2 _ _ _ _) (z9w w _ _) _ rfl rfl rfl
 ·rw[if_neg hlt,if_neg hlt]
  go_enter func176,ntmps176
  go_wp2;exact z8P results176 (MAt.new2 _ _ _ _) (z9w w _ _) _ rfl rfl rfl
end Mt
end Go.Proofs.YtmopekkhmhhcaaaGreat
