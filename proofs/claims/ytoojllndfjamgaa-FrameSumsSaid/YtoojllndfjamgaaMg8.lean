/- FrameSums proved: Sum of frame returns what the document says, for any bytes. Conditions: none. -/
import Derived.Test.YtoojllndfjamgaaMg7
set_option linter.unusedVariables false
set_option linter.unusedSimpArgs false
namespace Go.Proofs.Ytoojllndfjamgaa
open Go.Gi Go.RowKit
noncomputable section
set_option maxRecDepth 100000
set_option maxHeartbeats 1000000
def dbl (s:Nat):Nat:=if 32768≤s then (2*s % 65536) ^^^ 4129 else 2*s % 65536
theorem dbl_lt (s:Nat):dbl s<65536:=by
  unfold dbl
  split
  · exact Nat.xor_lt_two_pow (n:=16) (Nat.mod_lt _ (by decide)) (by decide)
  · exact Nat.mod_lt _ (by decide)
def wth (s b:Nat):Nat:=iterN (fun _=>dbl) 8 0 (s ^^^ (b*256))
theorem wth_lt {s b:Nat}(hs:s<65536) (hb:b<256):wth s b<65536 :=
  iterN_inv (n:=8) (I:=fun s=>s<65536) (fun _ s _ _=>dbl_lt s) 8 0 _ rfl (Nat.xor_lt_two_pow (n:=16) hs (show b*256<2 ^ 16 by omega))
def crc (c:Array Value)(o n:Nat):Nat:=iterN (fun k s=>wth s (byt c (o+k))) n 0 65535
theorem wrapU16_nat (m:Nat):IntKind.wrap .u16 (m:Int)=((m % 65536:Nat):Int):=by
  simp only [IntKind.wrap,IntKind.bits,IntKind.signed,Bool.false_and,Bool.false_eq_true,if_false]
  omega
theorem F58_of {s b:Nat}(hs:s<65536) (hb:b<256):F58_ok (s:Int) (b:Int)=true∧F58_0 (s:Int) (b:Int)=(wth s b:Int):=by
  have h0:s ^^^ (b*256)<65536:=Nat.xor_lt_two_pow (n:=16) hs (show b*256<2 ^ 16 by omega)
  have e1:xorI .u16 (s:Int) (IntKind.wrap .u16 ((IntKind.wrap .u16 (b:Int))*(256:Int)))=((s ^^^ (b*256):Nat):Int):=by
    rw [wrapU16 b (by omega),show (b:Int)*256=((b*256:Nat):Int) by omega,wrapU16 _ (by omega)]
    exact xorU16 _ _ hs (by omega)
  have l:L58_0 (X58_0.mk ((s ^^^ (b*256):Nat):Int) 0)=some (.k0 (wth s b:Int)) :=
    loop_iter (σ:=Nat) (rd:=rd58_0) (S:=fun k s=>X58_0.mk (s:Int) (k:Int)) (f:=fun _=>dbl) (n:=8) (fin:=fun s=>.k0 (s:Int)) (I:=fun s=>s<65536) (fun _ s _ _=>dbl_lt s)
      (fun k s hk h=>by
        have h1:(k:Int)<8:=by omega
        have h3:IntKind.wrap .i64 ((k:Int)+1)=((k+1:Nat):Int):=by rw [wrap64_id (by omega) (by omega)];omega
        have h4:IntKind.wrap .u16 ((s:Int)*2)=((2*s % 65536:Nat):Int):=by rw [show (s:Int)*2=((2*s:Nat):Int) by omega];exact wrapU16_nat _
        have h5:2*s % 65536<65536:=Nat.mod_lt _ (by decide)
        have h6:xorI .u16 ((2*s % 65536:Nat):Int) 4129=(((2*s % 65536) ^^^ 4129:Nat):Int):=xorU16 _ 4129 h5 (by decide)
        unfold dbl
        by_cases hs:32768≤s
        · have i1:(32768:Int)≤(s:Int):=by omega
          simp only [rd58_0,RT.val,h1,h3,h4,i1,h6,hs,if_true,decide_true,cond_true]
        · have i1:¬(32768:Int)≤(s:Int):=by omega
          simp only [rd58_0,RT.val,h1,h3,h4,i1,hs,if_false,decide_true,decide_false,cond_true,cond_false])
      (fun s h=>by
        have h1:¬((8:Nat):Int)<8:=by omega
        simp only [rd58_0,RT.val,h1,decide_false,cond_false]) 8 0 (s ^^^ (b*256)) rfl h0
  have q:F58 (s:Int) (b:Int)=some ⟨(wth s b:Int)⟩:=by
    unfold F58 rt58
    simp only [RT.val,e1,L58_0_k0,Qa0,l,cond_true]
  exact ⟨by simp only [F58_ok,q];rfl,by simp only [F58_0,q]⟩
section
variable {c:Array Value}{n:Nat}
theorem F20_of (g:BL c n):F20 c 0 n=some ⟨(crc c 0 n:Int)⟩:=by
  have few:=g.few
  unfold maxLen at few
  have l:L20_0 (X20_0.mk 65535 c 0 n (n:Int) 0)=some (.k0 (crc c 0 n:Int)) :=
    loop_iter (σ:=Nat) (rd:=rd20_0) (S:=fun k s=>X20_0.mk (s:Int) c 0 n (n:Int) (k:Int)) (f:=fun k s=>wth s (byt c (0+k))) (n:=n) (fin:=fun s=>.k0 (s:Int)) (I:=fun s=>s<65536)
      (fun k s hk h=>wth_lt h (by rw [Nat.zero_add];exact g.lt hk))
      (fun k s hk h=>by
        have h0:(0:Int)≤(k:Int):=by omega
        have h1:(k:Int)<(n:Int):=by omega
        have h3:IntKind.wrap .i64 ((k:Int)+1)=((k+1:Nat):Int):=by rw [wrap64_id (by omega) (by omega)];omega
        have h4:=g.isu k hk
        have h5:=g.eq hk
        obtain ⟨o,e⟩:=F58_of (s:=s) (b:=byt c k) h (g.lt hk)
        simp only [rd20_0,RT.val,h0,h1,h3,h4,h5,o,e,Int.toNat_natCast,Int.ofNat_eq_natCast,Nat.zero_add,Nat.mul_one,decide_true,Bool.and_self,cond_true])
      (fun s h=>by
        have h1:¬(n:Int)<(n:Int):=by omega
        simp only [rd20_0,RT.val,h1,decide_false,cond_false]) n 0 65535 (Nat.zero_add n) (by decide)
  have hc:crc c 0 n<65536:=iterN_inv (n:=n) (I:=fun s=>s<65536) (fun k s hk h=>wth_lt h (by rw [Nat.zero_add];exact g.lt hk)) n 0 _ (by omega) (by decide)
  unfold F20 rt20
  simp only [RT.val,L20_0_k0,Qb0,l,cond_true,Int.ofNat_eq_natCast]
  rw [wrapI64 _ (by omega)]
theorem F21_of (g:BL c n):F21 c 0 n=some ⟨(crc c 0 n:Int)⟩:=by
  have few:=g.few
  unfold maxLen at few
  have inner:∀(j s:Nat),s<65536→L21_1 (X21_1.mk c 0 n (s:Int) (j:Int) 0)=some (.k0 c 0 n ((iterN (fun _=>dbl) 8 0 s:Nat):Int) (j:Int)):=by
    intro j s hs
    exact loop_iter (σ:=Nat) (rd:=rd21_1) (S:=fun k s=>X21_1.mk c 0 n (s:Int) (j:Int) (k:Int)) (f:=fun _=>dbl) (n:=8) (fin:=fun s=>D21_1.k0 c 0 n (s:Int) (j:Int)) (I:=fun s=>s<65536) (fun _ s _ _=>dbl_lt s)
      (fun k s hk h=>by
        have h1:(k:Int)<8:=by omega
        have h3:IntKind.wrap .i64 ((k:Int)+1)=((k+1:Nat):Int):=by rw [wrap64_id (by omega) (by omega)];omega
        have h4:Int.tmod (IntKind.wrap .i64 ((2:Int)*(s:Int))) 65536=((2*s % 65536:Nat):Int):=by
          rw [wrap64_id (by omega) (by omega),Int.tmod_eq_emod_of_nonneg (by omega)];omega
        have h5:2*s % 65536<65536:=Nat.mod_lt _ (by decide)
        have h6:xorI .i64 ((2*s % 65536:Nat):Int) 4129=(((2*s % 65536) ^^^ 4129:Nat):Int):=xorI64 _ 4129 (by omega) (by decide)
        unfold dbl
        by_cases hs:32768≤s
        · have i1:(32768:Int)≤(s:Int):=by omega
          simp only [rd21_1,RT.val,h1,h3,h4,i1,h6,hs,if_true,decide_true,cond_true]
        · have i1:¬(32768:Int)≤(s:Int):=by omega
          simp only [rd21_1,RT.val,h1,h3,h4,i1,hs,if_false,decide_true,decide_false,cond_true,cond_false])
      (fun s h=>by
        have h1:¬((8:Nat):Int)<8:=by omega
        simp only [rd21_1,RT.val,h1,decide_false,cond_false]) 8 0 s rfl hs
  have l:L21_0 (X21_0.mk c 0 n 65535 0)=some (.k0 (crc c 0 n:Int)) :=
    loop_iter (σ:=Nat) (rd:=rd21_0) (S:=fun k s=>X21_0.mk c 0 n (s:Int) (k:Int)) (f:=fun k s=>wth s (byt c (0+k))) (n:=n) (fin:=fun s=>.k0 (s:Int)) (I:=fun s=>s<65536)
      (fun k s hk h=>wth_lt h (by rw [Nat.zero_add];exact g.lt hk))
      (fun k s hk h=>by
        have h0:(0:Int)≤(k:Int):=by omega
        have h1:(k:Int)<(n:Int):=by omega
        have h3:IntKind.wrap .i64 ((k:Int)+1)=((k+1:Nat):Int):=by rw [wrap64_id (by omega) (by omega)];omega
        have h4:=g.isu k hk
        have h5:=g.eq hk
        have hb:=g.lt hk
        have hx:s ^^^ (byt c k*256)<65536:=Nat.xor_lt_two_pow (n:=16) h (show byt c k*256<2 ^ 16 by omega)
        have e1:xorI .i64 (s:Int) (IntKind.wrap .i64 ((IntKind.wrap .i64 (byt c k:Int))*(256:Int)))=((s ^^^ (byt c k*256):Nat):Int):=by
          rw [wrapI64 _ (by omega),show (byt c k:Int)*256=((byt c k*256:Nat):Int) by omega,wrapI64 _ (by omega)]
          exact xorI64 _ _ (by omega) (by omega)
        have li:=inner k _ hx
        simp only [rd21_0,RT.val,h0,h1,h4,h5,e1,L21_1_k0,Qc0,Qc1,Qc2,Qc3,Qc4,li,h3,Int.toNat_natCast,Int.ofNat_eq_natCast,Nat.zero_add,Nat.mul_one,decide_true,Bool.and_self,cond_true]
        rfl)
      (fun s h=>by
        have h1:¬(n:Int)<(n:Int):=by omega
        simp only [rd21_0,RT.val,h1,Int.ofNat_eq_natCast,decide_false,cond_false]) n 0 65535 (Nat.zero_add n) (by decide)
  unfold F21 rt21
  simp only [RT.val,L21_0_k0,Qd0,l,cond_true,Int.ofNat_eq_natCast]
end
end
end Go.Proofs.Ytoojllndfjamgaa
namespace Go.Proofs.Ytoojllndfjamgaa
open Go.Gi Go.RowKit
noncomputable section
set_option maxRecDepth 100000
theorem true4:True4:=by
  intro c n h
  have p:=F20_of h
  have q:=F21_of h
  have o1:F20_ok c 0 n=true:=by simp only [F20_ok,p];rfl
  have o2:F21_ok c 0 n=true:=by simp only [F21_ok,q];rfl
  unfold rt4
  by_cases hn:(4000:Int)<(n:Int)
  · simp only [RT.val,hn,Int.ofNat_eq_natCast,decide_true,cond_true]
  · simp only [RT.val,hn,o1,o2,F20_0,F21_0,p,q,Int.ofNat_eq_natCast,decide_true,decide_false,cond_true,cond_false]
theorem frameSumsProved:Rows.FrameSumsSaid:=said4 true4
end
end Go.Proofs.Ytoojllndfjamgaa
