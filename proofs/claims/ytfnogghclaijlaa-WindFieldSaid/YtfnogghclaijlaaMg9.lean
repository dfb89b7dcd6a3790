/- Part 9 of the texts below the claim. Conditions: none. -/
import Derived.Test.YtfnogghclaijlaaMg8
import Derived.Test.YtfnogghclaijlaaMg5
set_option linter.unusedVariables false
set_option linter.unusedSimpArgs false
namespace Go.Proofs.Ytfnogghclaijlaa.Old
open Go.Gi Go.RowKit
noncomputable section
def rangesIn:Code→List (Code×Code)
  | .seq a b=>rangesIn a++rangesIn b
  | .cond _ a b=>rangesIn a++rangesIn b
  | .block _ c=>rangesIn c
  | .loop c=>rangesIn c
  | .rangeFunc _ _ a b=>[(a,b)]
  | _=>[]
def theRange (P:Program)(f k:Nat):Code×Code :=
  match P.funcs[f]? with
  | some fn=>(match fn.body with
    | some c=>((rangesIn c)[k]?).getD (.skip,.skip)
    | none=>(.skip,.skip))
  | none=>(.skip,.skip)
def asg (f:Nat):Code:=(theRange Try.prog f 0).1
def bdy (f:Nat):Code:=(theRange Try.prog f 0).2
def absI (a b:Int):Int:=max (a-b) (b-a)
def begunI (l s:Int):Int:=Int.tdiv (l+s-1) s
def knP (c0:Array Value)(off0:Nat)(c:Array Value)(off:Nat)(now:Int)(k:Nat):Bool :=
  decide (getInt c (off+k*5+1)+getInt c0 (off0+(getInt c (off+k*5)).toNat*7+3)≤now)&&decide (now-getInt c (off+k*5+1)≤getInt c0 (off0+(getInt c (off+k*5)).toNat*7+4))
def dbI (c0:Array Value)(off0:Nat)(c:Array Value)(off:Nat)(age shear lo hi tick:Int)(k:Nat):Int :=
  getInt c0 (off0+(getInt c (off+k*5)).toNat*7+2)+age*begunI (absI (getInt c (off+k*5+1)) tick) 600 +
    shear*begunI (max (absI (getInt c (off+k*5+2)) lo) (absI (getInt c (off+k*5+2)) hi)) 100000
def chB (g:Nat)(q s:Int):Bool:=match g with
  | 117=>decide (s=q)
  | 128=>!decide (s=q)
  | _=>true
def dbW (c0:Array Value)(off0:Nat)(c:Array Value)(off:Nat)(age shear lo hi tick:Int)(k:Nat):Int :=
  IntKind.i64.wrap (IntKind.i64.wrap (getInt c0 (off0+(getInt c (off+k*5)).toNat*7+2)+IntKind.i64.wrap (age*IntKind.i64.wrap (Int.tdiv (IntKind.i64.wrap (IntKind.i64.wrap (max (IntKind.i64.wrap (getInt c (off+k*5+1)-tick)) (IntKind.i64.wrap (tick-getInt c (off+k*5+1)))+600)-1)) 600))) +
    IntKind.i64.wrap (shear*IntKind.i64.wrap (Int.tdiv (IntKind.i64.wrap (IntKind.i64.wrap (max (max (IntKind.i64.wrap (getInt c (off+k*5+1+1)-lo)) (IntKind.i64.wrap (lo-getInt c (off+k*5+1+1)))) (max (IntKind.i64.wrap (getInt c (off+k*5+1+1)-hi)) (IntKind.i64.wrap (hi-getInt c (off+k*5+1+1))))+100000)-1)) 100000)))
structure Hd where
  xl:Int
  xh:Int
  yl:Int
  yh:Int
  sm:Bool
def hdR (c0:Array Value)(off0:Nat)(c:Array Value)(off:Nat)(age shear lo hi tick now:Int)(g:Nat)(q:Int):Nat→Nat→Hd→Hd
  | 0,_,s=>s
  | m+1,k,s=>hdR c0 off0 c off age shear lo hi tick now g q m (k+1)
    (if knP c0 off0 c off now k=true∧chB g q (getInt c (off+k*5))=true then
      ⟨max s.xl (getInt c (off+k*5+3)-dbI c0 off0 c off age shear lo hi tick k),min s.xh (getInt c (off+k*5+3)+dbI c0 off0 c off age shear lo hi tick k),
       max s.yl (getInt c (off+k*5+4)-dbI c0 off0 c off age shear lo hi tick k),min s.yh (getInt c (off+k*5+4)+dbI c0 off0 c off age shear lo hi tick k),true⟩ else s)
def hXl (c0:Array Value)(off0:Nat)(c:Array Value)(off:Nat)(age shear lo hi tick now:Int)(g:Nat)(q:Int)(m k:Nat)(a b x y:Int)(s:Bool):Int:=(hdR c0 off0 c off age shear lo hi tick now g q m k ⟨a,b,x,y,s⟩).xl
def hXh (c0:Array Value)(off0:Nat)(c:Array Value)(off:Nat)(age shear lo hi tick now:Int)(g:Nat)(q:Int)(m k:Nat)(a b x y:Int)(s:Bool):Int:=(hdR c0 off0 c off age shear lo hi tick now g q m k ⟨a,b,x,y,s⟩).xh
def hYl (c0:Array Value)(off0:Nat)(c:Array Value)(off:Nat)(age shear lo hi tick now:Int)(g:Nat)(q:Int)(m k:Nat)(a b x y:Int)(s:Bool):Int:=(hdR c0 off0 c off age shear lo hi tick now g q m k ⟨a,b,x,y,s⟩).yl
def hYh (c0:Array Value)(off0:Nat)(c:Array Value)(off:Nat)(age shear lo hi tick now:Int)(g:Nat)(q:Int)(m k:Nat)(a b x y:Int)(s:Bool):Int:=(hdR c0 off0 c off age shear lo hi tick now g q m k ⟨a,b,x,y,s⟩).yh
def hSm (c0:Array Value)(off0:Nat)(c:Array Value)(off:Nat)(age shear lo hi tick now:Int)(g:Nat)(q:Int)(m k:Nat)(a b x y:Int)(s:Bool):Bool:=(hdR c0 off0 c off age shear lo hi tick now g q m k ⟨a,b,x,y,s⟩).sm
structure Vld (c0:Array Value) (off0 n:Nat) (c:Array Value) (off n2:Nat) (age shear:Int):Prop where
  g0:GoodL L7 c0 off0 n
  g1:GoodL L5 c off n2
  few:n≤6
  few2:n2≤60
  age:0≤age∧age≤1000
  shear:0≤shear∧shear≤1000
  src:∀k,k<n2→0≤getInt c (off+k*5)∧getInt c (off+k*5)<n
  tick:∀k,k<n2→0≤getInt c (off+k*5+1)∧getInt c (off+k*5+1)≤100000
  height:∀k,k<n2→0≤getInt c (off+k*5+2)∧getInt c (off+k*5+2)≤99999999
  x:∀k,k<n2→-20000≤getInt c (off+k*5+3)∧getInt c (off+k*5+3)≤20000
  y:∀k,k<n2→-20000≤getInt c (off+k*5+4)∧getInt c (off+k*5+4)≤20000
  err:∀i,i<n→0≤getInt c0 (off0+i*7+2)∧getInt c0 (off0+i*7+2)≤5000
  late:∀i,i<n→0≤getInt c0 (off0+i*7+3)∧getInt c0 (off0+i*7+3)≤6000
  life:∀i,i<n→1≤getInt c0 (off0+i*7+4)∧getInt c0 (off0+i*7+4)≤60000
structure Qst (lo hi tick now:Int):Prop where
  lo:0≤lo∧lo≤100000000
  hi:0≤hi∧hi≤100000000
  tick:0≤tick∧tick≤100000
  now:0≤now∧now≤100000
def fvG (g:Nat):Value:=match g with
  | 117=>.func (.func 117) ⟨[]⟩ ⟨[.pointer (some ⟨3,0,none⟩)]⟩
  | 128=>.func (.func 128) ⟨[]⟩ ⟨[.pointer (some ⟨3,0,none⟩)]⟩
  | _=>.func (.func 88) ⟨[]⟩ ⟨[]⟩
def obG (g:Nat)(q:Int):Ob:=match g with
  | 117=>.cells ⟨[.int .i64 q]⟩ true
  | 128=>.cells ⟨[.int .i64 q]⟩ true
  | _=>.dead
def tkV (off0 n off n2:Nat)(d:Option Addr)(n3 z3:Nat)(age shear:Int):List Value:=[.slice (some ⟨0,off0,none⟩) n 7,.slice (some ⟨1,off,none⟩) n2 5,.slice d n3 z3,.int .i64 age,.int .i64 shear]
def quV (lo hi tick now:Int):List Value:=[.int .i64 lo,.int .i64 hi,.int .i64 tick,.int .i64 now]
def uV:Value:=.tuple ⟨[]⟩
def tmH (T Q:List Value)(f:Value)(now:Int):List Value :=
  [.agg ⟨T⟩,.agg ⟨Q⟩,f,.func (.func 116) ⟨[.slice (some ⟨7,0,none⟩) 2 2]⟩ ⟨[]⟩,.pointer (some ⟨8,0,none⟩),.pointer (some ⟨9,0,none⟩),.pointer (some ⟨10,0,none⟩),.pointer (some ⟨11,0,none⟩),.pointer (some ⟨12,0,none⟩),uV,uV,
   .agg ⟨T⟩,.pointer (some ⟨9,3,none⟩),.int .i64 now,.func (.func 110) ⟨[]⟩ ⟨[.pointer (some ⟨13,0,none⟩),.pointer (some ⟨14,0,none⟩)]⟩,uV,uV,uV,uV,uV,uV,uV,uV,uV,uV,uV,uV,uV,uV,uV,uV,uV,uV,uV,uV,uV]
def hdH (o0 o1 o2 o3:Ob)(T Q:List Value)(f:Value)(now xl xh yl yh:Int)(sm:Bool):List Ob :=
  [o0,o1,o2,o3,.cells ⟨T⟩ false,.cells ⟨Q⟩ false,.cells ⟨[.int .i64 (-20000),.int .i64 20000]⟩ false,.cells ⟨[.int .i64 xl,.int .i64 xh,.int .i64 yl,.int .i64 yh]⟩ false,
   .cells ⟨T⟩ false,.cells ⟨Q⟩ false,.cells ⟨[f]⟩ false,.cells ⟨[.func (.func 116) ⟨[.slice (some ⟨7,0,none⟩) 2 2]⟩ ⟨[]⟩]⟩ false,.cells ⟨[.bool sm]⟩ false,.cells ⟨T⟩ false,.cells ⟨[.int .i64 now]⟩ false,.dfr false,
   .loop .ready none ⟨tmH T Q f now⟩ ⟨[15]⟩ (asg 115) (bdy 115) 15]
def okHear (g:Nat)(H:List Ob)(c0 c:Array Value)(o2:Ob)(off0 n off n2:Nat)(d:Option Addr)(n3 z3:Nat)(age shear lo hi tick now q xl xh yl yh:Int)(sm:Bool)(m k:Int)(base:Nat):Bool :=
  dec ((∃G,H=hdH (.cells c0 true) (.cells c true) o2 (obG g q) (tkV off0 n off n2 d n3 z3 age shear) (quV lo hi tick now) (fvG g) now xl xh yl yh sm++G)∧Vld c0 off0 n c off n2 age shear∧Qst lo hi tick now∧sc1 3 (.slice d n3 z3)=true∧grOb o2 ∧
    -100000000≤xl∧xl≤100000000∧-100000000≤xh∧xh≤100000000∧-100000000≤yl∧yl≤100000000∧-100000000≤yh∧yh≤100000000∧m=n2∧0≤k∧base=17)
def qOf (o:Ob):Int:=match o with
  | .cells ⟨[.int .i64 q]⟩ true=>q
  | _=>0
def shHear (g:Nat):Shape
  | .code none (.loop code) ⟨t,[],⟨.cells c0 true::.cells c true::o2::o3::H,base,wr⟩⟩ =>
    match Nat.beq (firstReg code) 1,lget t 0,lget t 1,lget t 2,lget t 8,lget t 9,lget t 10 with
    | true,.func (.yield 16) ⟨[]⟩ ⟨[]⟩,.pointer (some ⟨13,0,none⟩),.pointer (some ⟨14,0,none⟩),.slice (some ⟨1,off,none⟩) n2 5,.int .i64 m,.int .i64 k=>(match nthO H 0 with
      | some (.cells ⟨[.slice (some ⟨0,off0,none⟩) n 7,_,.slice d n3 z3,.int .i64 age,.int .i64 shear]⟩ false)=>(match nthO H 1 with
        | some (.cells ⟨[.int .i64 lo,.int .i64 hi,.int .i64 tick,.int .i64 now]⟩ false)=>(match nthO H 3 with
          | some (.cells ⟨[.int .i64 xl,.int .i64 xh,.int .i64 yl,.int .i64 yh]⟩ false)=>(match nthO H 6 with
            | some (.cells ⟨[.func (.func g') _ _]⟩ false)=>(match Nat.beq g' g with
              | true=>(match nthO H 8 with
                | some (.cells ⟨[.bool sm]⟩ false)=>some fun j =>
                  .br (eqCode code (theLoop Try.prog 110 0)) (.br (Nat.beq t.length 44) (.br (okHear g (.cells c0 true::.cells c true::o2::o3::H) c0 c o2 off0 n off n2 d n3 z3 age shear lo hi tick now (qOf o3) xl xh yl yh sm m k base)
                    (loopEnd 44 (.exit 0) [] ⟨hdH (.cells c0 true) (.cells c true) o2 o3 (tkV off0 n off n2 d n3 z3 age shear) (quV lo hi tick now) (fvG g) now
                        (hXl c0 off0 c off age shear lo hi tick now g (qOf o3) (n2-k.toNat) k.toNat xl xh yl yh sm) (hXh c0 off0 c off age shear lo hi tick now g (qOf o3) (n2-k.toNat) k.toNat xl xh yl yh sm)
                        (hYl c0 off0 c off age shear lo hi tick now g (qOf o3) (n2-k.toNat) k.toNat xl xh yl yh sm) (hYh c0 off0 c off age shear lo hi tick now g (qOf o3) (n2-k.toNat) k.toNat xl xh yl yh sm)
                        (hSm c0 off0 c off age shear lo hi tick now g (qOf o3) (n2-k.toNat) k.toNat xl xh yl yh sm)++H.drop 13,base,16::12::7::wr⟩ j) .no) .no) .no
                | _=>none)
              | false=>none)
            | _=>none)
          | _=>none)
        | _=>none)
      | _=>none)
    | _,_,_,_,_,_,_=>none
  | _=>none
def mesH:Task→Nat
  | .code _ _ s=>match lget s.t 9,lget s.t 10 with
    | .int _ n,.int _ i=>Nat.sub n.toNat i.toNat
    | _,_=>0
  | _=>0
end
end Go.Proofs.Ytfnogghclaijlaa.Old
namespace Go.Proofs.Ytfnogghclaijlaa.Old
open Go.Gi Go.RowKit
noncomputable section
set_option maxRecDepth 100000
theorem treeH117 (J:Task→List Value)(c0 c:Array Value)(o2:Ob)(off0 n off n2:Nat)(d:Option Addr)(n3 z3:Nat)(age shear lo hi tick now q xl xh yl yh:Int)(sm:Bool)(m k:Int)(M:Nat)(y:List Value) :
    evS Try.prog (((shHear 117).ans J).below mesH M |>.or (fun _=>none)) 60 (.code none (.loop (theLoop Try.prog 110 0)) ⟨sets (junkF 44 y) [(0,.func (.yield 16) ⟨[]⟩ ⟨[]⟩),(1,pp 13),(2,pp 14),(8,.slice (some ⟨1,off,none⟩) n2 5),(9,.int .i64 m),(10,.int .i64 k)],[],⟨hdH (.cells c0 true) (.cells c true) o2 (obG 117 q) (tkV off0 n off n2 d n3 z3 age shear) (quV lo hi tick now) (fvG 117) now xl xh yl yh sm,17,[]⟩⟩) (sumK 17 44 pick106) =
    cond (decide (k<m)) (cond (and (decide ((0:Int)≤k)) (decide (k<(Int.ofNat n2)))) (cond (and true (rdOk c [(Leaf.int .i64),(Leaf.int .i64),(Leaf.int .i64),(Leaf.int .i64),(Leaf.int .i64)] (off+((Int.toNat k)*5)))) (cond (and (decide ((0:Int)≤(getInt c (off+((Int.toNat k)*5))))) (decide ((getInt c (off+((Int.toNat k)*5)))<(Int.ofNat n)))) (cond (and true (rdOk c0 [Leaf.str,(Leaf.int .i64),(Leaf.int .i64),(Leaf.int .i64),(Leaf.int .i64),(Leaf.int .i64),(Leaf.int .i64)] (off0+((Int.toNat (getInt c (off+((Int.toNat k)*5))))*7)))) (cond (decide ((IntKind.wrap .i64 ((getInt c ((off+((Int.toNat k)*5))+1))+(getInt c0 ((((off0+((Int.toNat (getInt c (off+((Int.toNat k)*5))))*7))+1)+1)+1))))≤now)) (cond (decide ((IntKind.wrap .i64 (now-(getInt c ((off+((Int.toNat k)*5))+1))))≤(getInt c0 (((((off0+((Int.toNat (getInt c (off+((Int.toNat k)*5))))*7))+1)+1)+1)+1)))) (cond (and (decide ((0:Int)≤k)) (decide (k<(Int.ofNat n2))))
 (cond (and true (rdOk c [(Leaf.int .i64),(Leaf.int .i64),(Leaf.int .i64),(Leaf.int .i64),(Leaf.int .i64)] (off+((Int.toNat k)*5)))) (cond (decide ((getInt c (off+((Int.toNat k)*5)))=q)) (cond (decide ((getInt c (((off+((Int.toNat k)*5))+1)+1))=(getInt c (((off+((Int.toNat k)*5))+1)+1)))) (cond (decide ((getInt c (((off+((Int.toNat k)*5))+1)+1))=(getInt c (((off+((Int.toNat k)*5))+1)+1)))) (cond (decide (hi=hi)) (cond (decide (hi=hi)) (cond (and (decide ((0:Int)≤(getInt c (off+((Int.toNat k)*5))))) (decide ((getInt c (off+((Int.toNat k)*5)))<(Int.ofNat n)))) (cond (and true (isInt .i64 c0 ((off0+((Int.toNat (getInt c (off+((Int.toNat k)*5))))*7))+2))) (cond (decide ((getInt c (off+((Int.toNat k)*5)))=(getInt c (off+((Int.toNat k)*5))))) (cond (decide ((getInt c ((off+((Int.toNat k)*5))+1))=(getInt c ((off+((Int.toNat k)*5))+1)))) (cond (decide ((getInt c (((off+((Int.toNat k)*5))+1)+1))=(getInt c (((off+((Int.toNat k)*5))+1)+1))))
 (cond (decide ((getInt c ((((off+((Int.toNat k)*5))+1)+1)+1))=(getInt c ((((off+((Int.toNat k)*5))+1)+1)+1)))) (cond (decide ((getInt c (((((off+((Int.toNat k)*5))+1)+1)+1)+1))=(getInt c (((((off+((Int.toNat k)*5))+1)+1)+1)+1)))) (cond (decide ((getInt c (off+((Int.toNat k)*5)))=(getInt c (off+((Int.toNat k)*5))))) (cond (decide ((getInt c ((off+((Int.toNat k)*5))+1))=(getInt c ((off+((Int.toNat k)*5))+1)))) (cond (decide ((getInt c (((off+((Int.toNat k)*5))+1)+1))=(getInt c (((off+((Int.toNat k)*5))+1)+1)))) (cond (decide ((getInt c ((((off+((Int.toNat k)*5))+1)+1)+1))=(getInt c ((((off+((Int.toNat k)*5))+1)+1)+1)))) (cond (decide ((getInt c (((((off+((Int.toNat k)*5))+1)+1)+1)+1))=(getInt c (((((off+((Int.toNat k)*5))+1)+1)+1)+1)))) (cond (Nat.blt (Nat.sub (Int.toNat m) (Int.toNat (IntKind.wrap .i64 (k+(1:Int))))) M) (cond (eqCode (theLoop Try.prog 110 0) (theLoop Try.prog 110 0))
 (cond (okHear 117 ((hdH (.cells c0 true) (.cells c true) o2 (obG 117 q) (tkV off0 n off n2 d n3 z3 age shear) (quV lo hi tick now) (fvG 117) now (max xl (IntKind.wrap .i64 ((getInt c ((((off+((Int.toNat k)*5))+1)+1)+1))-(dbW c0 off0 c off age shear lo hi tick (Int.toNat k))))) (min xh (IntKind.wrap .i64 ((getInt c ((((off+((Int.toNat k)*5))+1)+1)+1))+(dbW c0 off0 c off age shear lo hi tick (Int.toNat k))))) (max yl (IntKind.wrap .i64 ((getInt c (((((off+((Int.toNat k)*5))+1)+1)+1)+1))-(dbW c0 off0 c off age shear lo hi tick (Int.toNat k))))) (min yh (IntKind.wrap .i64 ((getInt c (((((off+((Int.toNat k)*5))+1)+1)+1)+1))+(dbW c0 off0 c off age shear lo hi tick (Int.toNat k))))) true)++[(Ob.cells ⟨[(.int .i64 (getInt c (off+((Int.toNat k)*5)))),(.int .i64 (getInt c ((off+((Int.toNat k)*5))+1))),(.int .i64 (getInt c (((off+((Int.toNat k)*5))+1)+1))),(.int .i64 (getInt c ((((off+((Int.toNat k)*5))+1)+1)+1))),(.int .i64 (getInt c (((((off+((Int.toNat k)*5))+1)+1)+1)+1)))]⟩ false),(Ob.cells ⟨[(.string (getStr c0 (off0+((Int.toNat (getInt c (off+((Int.toNat k)*5))))*7)))),(.int .i64 (getInt c0 ((off0+((Int.toNat (getInt c (off+((Int.toNat k)*5))))*7))+1))),(.int .i64 (getInt c0 (((off0+((Int.toNat (getInt c (off+((Int.toNat k)*5))))*7))+1)+1))),(.int .i64 (getInt c0 ((((off0+((Int.toNat (getInt c (off+((Int.toNat k)*5))))*7))+1)+1)+1))),(.int .i64 (getInt c0 (((((off0+((Int.toNat (getInt c (off+((Int.toNat k)*5))))*7))+1)+1)+1)+1))),(.int .i64 (getInt c0 ((((((off0+((Int.toNat (getInt c (off+((Int.toNat k)*5))))*7))+1)+1)+1)+1)+1))),(.int .i64 (getInt c0 (((((((off0+((Int.toNat (getInt c (off+((Int.toNat k)*5))))*7))+1)+1)+1)+1)+1)+1)))]⟩ false),(Ob.cells ⟨[(.int .i64 (getInt c (off+((Int.toNat k)*5)))),(.int .i64 (getInt c ((off+((Int.toNat k)*5))+1))),(.int .i64 (getInt c (((off+((Int.toNat k)*5))+1)+1))),(.int .i64 (getInt c ((((off+((Int.toNat k)*5))+1)+1)+1))),(.int .i64 (getInt c (((((off+((Int.toNat k)*5))+1)+1)+1)+1)))]⟩ false)]) c0 c o2 off0 n off n2 d n3 z3 age shear lo hi tick now (qOf (obG 117 q)) (max xl (IntKind.wrap .i64 ((getInt c ((((off+((Int.toNat k)*5))+1)+1)+1))-(dbW c0 off0 c off age shear lo hi tick (Int.toNat k))))) (min xh (IntKind.wrap .i64 ((getInt c ((((off+((Int.toNat k)*5))+1)+1)+1))+(dbW c0 off0 c off age shear lo hi tick (Int.toNat k))))) (max yl (IntKind.wrap .i64 ((getInt c (((((off+((Int.toNat k)*5))+1)+1)+1)+1))-(dbW c0 off0 c off age shear lo hi tick (Int.toNat k))))) (min yh (IntKind.wrap .i64 ((getInt c (((((off+((Int.toNat k)*5))+1)+1)+1)+1))+(dbW c0 off0 c off age shear lo hi tick (Int.toNat k))))) true m (IntKind.wrap .i64 (k+(1:Int))) 17)
 (some (Out.ex (Ex.exit 0) (St.mk [] [] (Hp.mk (hdH (.cells c0 true) (.cells c true) o2 (obG 117 q) (tkV off0 n off n2 d n3 z3 age shear) (quV lo hi tick now) (fvG 117) now (hXl c0 off0 c off age shear lo hi tick now 117 (qOf (obG 117 q)) (n2-(Int.toNat (IntKind.wrap .i64 (k+(1:Int))))) (Int.toNat (IntKind.wrap .i64 (k+(1:Int)))) (max xl (IntKind.wrap .i64 ((getInt c ((((off+((Int.toNat k)*5))+1)+1)+1))-(dbW c0 off0 c off age shear lo hi tick (Int.toNat k))))) (min xh (IntKind.wrap .i64 ((getInt c ((((off+((Int.toNat k)*5))+1)+1)+1))+(dbW c0 off0 c off age shear lo hi tick (Int.toNat k))))) (max yl (IntKind.wrap .i64 ((getInt c (((((off+((Int.toNat k)*5))+1)+1)+1)+1))-(dbW c0 off0 c off age shear lo hi tick (Int.toNat k))))) (min yh (IntKind.wrap .i64 ((getInt c (((((off+((Int.toNat k)*5))+1)+1)+1)+1))+(dbW c0 off0 c off age shear lo hi tick (Int.toNat k))))) true) (hXh c0 off0 c off age shear lo hi tick now 117 (qOf (obG 117 q)) (n2-(Int.toNat (IntKind.wrap .i64 (k+(1:Int))))) (Int.toNat (IntKind.wrap .i64 (k+(1:Int)))) (max xl (IntKind.wrap .i64 ((getInt c ((((off+((Int.toNat k)*5))+1)+1)+1))-(dbW c0 off0 c off age shear lo hi tick (Int.toNat k))))) (min xh (IntKind.wrap .i64 ((getInt c ((((off+((Int.toNat k)*5))+1)+1)+1))+(dbW c0 off0 c off age shear lo hi tick (Int.toNat k))))) (max yl (IntKind.wrap .i64 ((getInt c (((((off+((Int.toNat k)*5))+1)+1)+1)+1))-(dbW c0 off0 c off age shear lo hi tick (Int.toNat k))))) (min yh (IntKind.wrap .i64 ((getInt c (((((off+((Int.toNat k)*5))+1)+1)+1)+1))+(dbW c0 off0 c off age shear lo hi tick (Int.toNat k))))) true) (hYl c0 off0 c off age shear lo hi tick now 117 (qOf (obG 117 q)) (n2-(Int.toNat (IntKind.wrap .i64 (k+(1:Int))))) (Int.toNat (IntKind.wrap .i64 (k+(1:Int)))) (max xl (IntKind.wrap .i64 ((getInt c ((((off+((Int.toNat k)*5))+1)+1)+1))-(dbW c0 off0 c off age shear lo hi tick (Int.toNat k))))) (min xh (IntKind.wrap .i64 ((getInt c ((((off+((Int.toNat k)*5))+1)+1)+1))+(dbW c0 off0 c off age shear lo hi tick (Int.toNat k))))) (max yl (IntKind.wrap .i64 ((getInt c (((((off+((Int.toNat k)*5))+1)+1)+1)+1))-(dbW c0 off0 c off age shear lo hi tick (Int.toNat k))))) (min yh (IntKind.wrap .i64 ((getInt c (((((off+((Int.toNat k)*5))+1)+1)+1)+1))+(dbW c0 off0 c off age shear lo hi tick (Int.toNat k))))) true) (hYh c0 off0 c off age shear lo hi tick now 117 (qOf (obG 117 q)) (n2-(Int.toNat (IntKind.wrap .i64 (k+(1:Int))))) (Int.toNat (IntKind.wrap .i64 (k+(1:Int)))) (max xl (IntKind.wrap .i64 ((getInt c ((((off+((Int.toNat k)*5))+1)+1)+1))-(dbW c0 off0 c off age shear lo hi tick (Int.toNat k))))) (min xh (IntKind.wrap .i64 ((getInt c ((((off+((Int.toNat k)*5))+1)+1)+1))+(dbW c0 off0 c off age shear lo hi tick (Int.toNat k))))) (max yl (IntKind.wrap .i64 ((getInt c (((((off+((Int.toNat k)*5))+1)+1)+1)+1))-(dbW c0 off0 c off age shear lo hi tick (Int.toNat k))))) (min yh (IntKind.wrap .i64 ((getInt c (((((off+((Int.toNat k)*5))+1)+1)+1)+1))+(dbW c0 off0 c off age shear lo hi tick (Int.toNat k))))) true) (hSm c0 off0 c off age shear lo hi tick now 117 (qOf (obG 117 q)) (n2-(Int.toNat (IntKind.wrap .i64 (k+(1:Int))))) (Int.toNat (IntKind.wrap .i64 (k+(1:Int)))) (max xl (IntKind.wrap .i64 ((getInt c ((((off+((Int.toNat k)*5))+1)+1)+1))-(dbW c0 off0 c off age shear lo hi tick (Int.toNat k))))) (min xh (IntKind.wrap .i64 ((getInt c ((((off+((Int.toNat k)*5))+1)+1)+1))+(dbW c0 off0 c off age shear lo hi tick (Int.toNat k))))) (max yl (IntKind.wrap .i64 ((getInt c (((((off+((Int.toNat k)*5))+1)+1)+1)+1))-(dbW c0 off0 c off age shear lo hi tick (Int.toNat k))))) (min yh (IntKind.wrap .i64 ((getInt c (((((off+((Int.toNat k)*5))+1)+1)+1)+1))+(dbW c0 off0 c off age shear lo hi tick (Int.toNat k))))) true)) 44 [16,12,7,16,12,7,7,7,7,16]))))
 none)
 none)
 none)
 none)
 none)
 none)
 none)
 none)
 none)
 none)
 none)
 none)
 none)
 none)
 none)
 none)
 none)
 none)
 none) (cond (Nat.blt (Nat.sub (Int.toNat m) (Int.toNat (IntKind.wrap .i64 (k+(1:Int))))) M) (cond (eqCode (theLoop Try.prog 110 0) (theLoop Try.prog 110 0))
 (cond (okHear 117 ((hdH (.cells c0 true) (.cells c true) o2 (obG 117 q) (tkV off0 n off n2 d n3 z3 age shear) (quV lo hi tick now) (fvG 117) now xl xh yl yh sm)++[(Ob.cells ⟨[(.int .i64 (getInt c (off+((Int.toNat k)*5)))),(.int .i64 (getInt c ((off+((Int.toNat k)*5))+1))),(.int .i64 (getInt c (((off+((Int.toNat k)*5))+1)+1))),(.int .i64 (getInt c ((((off+((Int.toNat k)*5))+1)+1)+1))),(.int .i64 (getInt c (((((off+((Int.toNat k)*5))+1)+1)+1)+1)))]⟩ false),(Ob.cells ⟨[(.string (getStr c0 (off0+((Int.toNat (getInt c (off+((Int.toNat k)*5))))*7)))),(.int .i64 (getInt c0 ((off0+((Int.toNat (getInt c (off+((Int.toNat k)*5))))*7))+1))),(.int .i64 (getInt c0 (((off0+((Int.toNat (getInt c (off+((Int.toNat k)*5))))*7))+1)+1))),(.int .i64 (getInt c0 ((((off0+((Int.toNat (getInt c (off+((Int.toNat k)*5))))*7))+1)+1)+1))),(.int .i64 (getInt c0 (((((off0+((Int.toNat (getInt c (off+((Int.toNat k)*5))))*7))+1)+1)+1)+1))),(.int .i64 (getInt c0 ((((((off0+((Int.toNat (getInt c (off+((Int.toNat k)*5))))*7))+1)+1)+1)+1)+1))),(.int .i64 (getInt c0 (((((((off0+((Int.toNat (getInt c (off+((Int.toNat k)*5))))*7))+1)+1)+1)+1)+1)+1)))]⟩ false),(Ob.cells ⟨[(.int .i64 (getInt c (off+((Int.toNat k)*5)))),(.int .i64 (getInt c ((off+((Int.toNat k)*5))+1))),(.int .i64 (getInt c (((off+((Int.toNat k)*5))+1)+1))),(.int .i64 (getInt c ((((off+((Int.toNat k)*5))+1)+1)+1))),(.int .i64 (getInt c (((((off+((Int.toNat k)*5))+1)+1)+1)+1)))]⟩ false)]) c0 c o2 off0 n off n2 d n3 z3 age shear lo hi tick now (qOf (obG 117 q)) xl xh yl yh sm m (IntKind.wrap .i64 (k+(1:Int))) 17)
 (some (Out.ex (Ex.exit 0) (St.mk [] [] (Hp.mk (hdH (.cells c0 true) (.cells c true) o2 (obG 117 q) (tkV off0 n off n2 d n3 z3 age shear) (quV lo hi tick now) (fvG 117) now (hXl c0 off0 c off age shear lo hi tick now 117 (qOf (obG 117 q)) (n2-(Int.toNat (IntKind.wrap .i64 (k+(1:Int))))) (Int.toNat (IntKind.wrap .i64 (k+(1:Int)))) xl xh yl yh sm) (hXh c0 off0 c off age shear lo hi tick now 117 (qOf (obG 117 q)) (n2-(Int.toNat (IntKind.wrap .i64 (k+(1:Int))))) (Int.toNat (IntKind.wrap .i64 (k+(1:Int)))) xl xh yl yh sm) (hYl c0 off0 c off age shear lo hi tick now 117 (qOf (obG 117 q)) (n2-(Int.toNat (IntKind.wrap .i64 (k+(1:Int))))) (Int.toNat (IntKind.wrap .i64 (k+(1:Int)))) xl xh yl yh sm) (hYh c0 off0 c off age shear lo hi tick now 117 (qOf (obG 117 q)) (n2-(Int.toNat (IntKind.wrap .i64 (k+(1:Int))))) (Int.toNat (IntKind.wrap .i64 (k+(1:Int)))) xl xh yl yh sm) (hSm c0 off0 c off age shear lo hi tick now 117 (qOf (obG 117 q)) (n2-(Int.toNat (IntKind.wrap .i64 (k+(1:Int))))) (Int.toNat (IntKind.wrap .i64 (k+(1:Int)))) xl xh yl yh sm)) 44 [16,12,7,16,16]))))
 none)
 none)
 none))
 none)
 none) (cond (Nat.blt (Nat.sub (Int.toNat m) (Int.toNat (IntKind.wrap .i64 (k+(1:Int))))) M) (cond (eqCode (theLoop Try.prog 110 0) (theLoop Try.prog 110 0))
 (cond (okHear 117 ((hdH (.cells c0 true) (.cells c true) o2 (obG 117 q) (tkV off0 n off n2 d n3 z3 age shear) (quV lo hi tick now) (fvG 117) now xl xh yl yh sm)++[(Ob.cells ⟨[(.int .i64 (getInt c (off+((Int.toNat k)*5)))),(.int .i64 (getInt c ((off+((Int.toNat k)*5))+1))),(.int .i64 (getInt c (((off+((Int.toNat k)*5))+1)+1))),(.int .i64 (getInt c ((((off+((Int.toNat k)*5))+1)+1)+1))),(.int .i64 (getInt c (((((off+((Int.toNat k)*5))+1)+1)+1)+1)))]⟩ false),(Ob.cells ⟨[(.string (getStr c0 (off0+((Int.toNat (getInt c (off+((Int.toNat k)*5))))*7)))),(.int .i64 (getInt c0 ((off0+((Int.toNat (getInt c (off+((Int.toNat k)*5))))*7))+1))),(.int .i64 (getInt c0 (((off0+((Int.toNat (getInt c (off+((Int.toNat k)*5))))*7))+1)+1))),(.int .i64 (getInt c0 ((((off0+((Int.toNat (getInt c (off+((Int.toNat k)*5))))*7))+1)+1)+1))),(.int .i64 (getInt c0 (((((off0+((Int.toNat (getInt c (off+((Int.toNat k)*5))))*7))+1)+1)+1)+1))),(.int .i64 (getInt c0 ((((((off0+((Int.toNat (getInt c (off+((Int.toNat k)*5))))*7))+1)+1)+1)+1)+1))),(.int .i64 (getInt c0 (((((((off0+((Int.toNat (getInt c (off+((Int.toNat k)*5))))*7))+1)+1)+1)+1)+1)+1)))]⟩ false)]) c0 c o2 off0 n off n2 d n3 z3 age shear lo hi tick now (qOf (obG 117 q)) xl xh yl yh sm m (IntKind.wrap .i64 (k+(1:Int))) 17)
 (some (Out.ex (Ex.exit 0) (St.mk [] [] (Hp.mk (hdH (.cells c0 true) (.cells c true) o2 (obG 117 q) (tkV off0 n off n2 d n3 z3 age shear) (quV lo hi tick now) (fvG 117) now (hXl c0 off0 c off age shear lo hi tick now 117 (qOf (obG 117 q)) (n2-(Int.toNat (IntKind.wrap .i64 (k+(1:Int))))) (Int.toNat (IntKind.wrap .i64 (k+(1:Int)))) xl xh yl yh sm) (hXh c0 off0 c off age shear lo hi tick now 117 (qOf (obG 117 q)) (n2-(Int.toNat (IntKind.wrap .i64 (k+(1:Int))))) (Int.toNat (IntKind.wrap .i64 (k+(1:Int)))) xl xh yl yh sm) (hYl c0 off0 c off age shear lo hi tick now 117 (qOf (obG 117 q)) (n2-(Int.toNat (IntKind.wrap .i64 (k+(1:Int))))) (Int.toNat (IntKind.wrap .i64 (k+(1:Int)))) xl xh yl yh sm) (hYh c0 off0 c off age shear lo hi tick now 117 (qOf (obG 117 q)) (n2-(Int.toNat (IntKind.wrap .i64 (k+(1:Int))))) (Int.toNat (IntKind.wrap .i64 (k+(1:Int)))) xl xh yl yh sm) (hSm c0 off0 c off age shear lo hi tick now 117 (qOf (obG 117 q)) (n2-(Int.toNat (IntKind.wrap .i64 (k+(1:Int))))) (Int.toNat (IntKind.wrap .i64 (k+(1:Int)))) xl xh yl yh sm)) 44 [16,12,7]))))
 none)
 none)
 none)) (cond (Nat.blt (Nat.sub (Int.toNat m) (Int.toNat (IntKind.wrap .i64 (k+(1:Int))))) M) (cond (eqCode (theLoop Try.prog 110 0) (theLoop Try.prog 110 0))
 (cond (okHear 117 ((hdH (.cells c0 true) (.cells c true) o2 (obG 117 q) (tkV off0 n off n2 d n3 z3 age shear) (quV lo hi tick now) (fvG 117) now xl xh yl yh sm)++[(Ob.cells ⟨[(.int .i64 (getInt c (off+((Int.toNat k)*5)))),(.int .i64 (getInt c ((off+((Int.toNat k)*5))+1))),(.int .i64 (getInt c (((off+((Int.toNat k)*5))+1)+1))),(.int .i64 (getInt c ((((off+((Int.toNat k)*5))+1)+1)+1))),(.int .i64 (getInt c (((((off+((Int.toNat k)*5))+1)+1)+1)+1)))]⟩ false),(Ob.cells ⟨[(.string (getStr c0 (off0+((Int.toNat (getInt c (off+((Int.toNat k)*5))))*7)))),(.int .i64 (getInt c0 ((off0+((Int.toNat (getInt c (off+((Int.toNat k)*5))))*7))+1))),(.int .i64 (getInt c0 (((off0+((Int.toNat (getInt c (off+((Int.toNat k)*5))))*7))+1)+1))),(.int .i64 (getInt c0 ((((off0+((Int.toNat (getInt c (off+((Int.toNat k)*5))))*7))+1)+1)+1))),(.int .i64 (getInt c0 (((((off0+((Int.toNat (getInt c (off+((Int.toNat k)*5))))*7))+1)+1)+1)+1))),(.int .i64 (getInt c0 ((((((off0+((Int.toNat (getInt c (off+((Int.toNat k)*5))))*7))+1)+1)+1)+1)+1))),(.int .i64 (getInt c0 (((((((off0+((Int.toNat (getInt c (off+((Int.toNat k)*5))))*7))+1)+1)+1)+1)+1)+1)))]⟩ false)]) c0 c o2 off0 n off n2 d n3 z3 age shear lo hi tick now (qOf (obG 117 q)) xl xh yl yh sm m (IntKind.wrap .i64 (k+(1:Int))) 17)
 (some (Out.ex (Ex.exit 0) (St.mk [] [] (Hp.mk (hdH (.cells c0 true) (.cells c true) o2 (obG 117 q) (tkV off0 n off n2 d n3 z3 age shear) (quV lo hi tick now) (fvG 117) now (hXl c0 off0 c off age shear lo hi tick now 117 (qOf (obG 117 q)) (n2-(Int.toNat (IntKind.wrap .i64 (k+(1:Int))))) (Int.toNat (IntKind.wrap .i64 (k+(1:Int)))) xl xh yl yh sm) (hXh c0 off0 c off age shear lo hi tick now 117 (qOf (obG 117 q)) (n2-(Int.toNat (IntKind.wrap .i64 (k+(1:Int))))) (Int.toNat (IntKind.wrap .i64 (k+(1:Int)))) xl xh yl yh sm) (hYl c0 off0 c off age shear lo hi tick now 117 (qOf (obG 117 q)) (n2-(Int.toNat (IntKind.wrap .i64 (k+(1:Int))))) (Int.toNat (IntKind.wrap .i64 (k+(1:Int)))) xl xh yl yh sm) (hYh c0 off0 c off age shear lo hi tick now 117 (qOf (obG 117 q)) (n2-(Int.toNat (IntKind.wrap .i64 (k+(1:Int))))) (Int.toNat (IntKind.wrap .i64 (k+(1:Int)))) xl xh yl yh sm) (hSm c0 off0 c off age shear lo hi tick now 117 (qOf (obG 117 q)) (n2-(Int.toNat (IntKind.wrap .i64 (k+(1:Int))))) (Int.toNat (IntKind.wrap .i64 (k+(1:Int)))) xl xh yl yh sm)) 44 [16,12,7]))))
 none)
 none)
 none))
 none)
 none)
 none)
 none) (some (Out.ex (Ex.exit 0) (St.mk [] [] (Hp.mk (hdH (.cells c0 true) (.cells c true) o2 (obG 117 q) (tkV off0 n off n2 d n3 z3 age shear) (quV lo hi tick now) (fvG 117) now xl xh yl yh sm) 44 [])))):=by kernel_rfl
theorem treeH128 (J:Task→List Value)(c0 c:Array Value)(o2:Ob)(off0 n off n2:Nat)(d:Option Addr)(n3 z3:Nat)(age shear lo hi tick now q xl xh yl yh:Int)(sm:Bool)(m k:Int)(M:Nat)(y:List Value) :
    evS Try.prog (((shHear 128).ans J).below mesH M |>.or (fun _=>none)) 60 (.code none (.loop (theLoop Try.prog 110 0)) ⟨sets (junkF 44 y) [(0,.func (.yield 16) ⟨[]⟩ ⟨[]⟩),(1,pp 13),(2,pp 14),(8,.slice (some ⟨1,off,none⟩) n2 5),(9,.int .i64 m),(10,.int .i64 k)],[],⟨hdH (.cells c0 true) (.cells c true) o2 (obG 128 q) (tkV off0 n off n2 d n3 z3 age shear) (quV lo hi tick now) (fvG 128) now xl xh yl yh sm,17,[]⟩⟩) (sumK 17 44 pick106) =
    cond (decide (k<m)) (cond (and (decide ((0:Int)≤k)) (decide (k<(Int.ofNat n2)))) (cond (and true (rdOk c [(Leaf.int .i64),(Leaf.int .i64),(Leaf.int .i64),(Leaf.int .i64),(Leaf.int .i64)] (off+((Int.toNat k)*5)))) (cond (and (decide ((0:Int)≤(getInt c (off+((Int.toNat k)*5))))) (decide ((getInt c (off+((Int.toNat k)*5)))<(Int.ofNat n)))) (cond (and true (rdOk c0 [Leaf.str,(Leaf.int .i64),(Leaf.int .i64),(Leaf.int .i64),(Leaf.int .i64),(Leaf.int .i64),(Leaf.int .i64)] (off0+((Int.toNat (getInt c (off+((Int.toNat k)*5))))*7)))) (cond (decide ((IntKind.wrap .i64 ((getInt c ((off+((Int.toNat k)*5))+1))+(getInt c0 ((((off0+((Int.toNat (getInt c (off+((Int.toNat k)*5))))*7))+1)+1)+1))))≤now)) (cond (decide ((IntKind.wrap .i64 (now-(getInt c ((off+((Int.toNat k)*5))+1))))≤(getInt c0 (((((off0+((Int.toNat (getInt c (off+((Int.toNat k)*5))))*7))+1)+1)+1)+1)))) (cond (and (decide ((0:Int)≤k)) (decide (k<(Int.ofNat n2))))
 (cond (and true (rdOk c [(Leaf.int .i64),(Leaf.int .i64),(Leaf.int .i64),(Leaf.int .i64),(Leaf.int .i64)] (off+((Int.toNat k)*5)))) (cond (not (decide ((getInt c (off+((Int.toNat k)*5)))=q))) (cond (decide ((getInt c (((off+((Int.toNat k)*5))+1)+1))=(getInt c (((off+((Int.toNat k)*5))+1)+1)))) (cond (decide ((getInt c (((off+((Int.toNat k)*5))+1)+1))=(getInt c (((off+((Int.toNat k)*5))+1)+1)))) (cond (decide (hi=hi)) (cond (decide (hi=hi)) (cond (and (decide ((0:Int)≤(getInt c (off+((Int.toNat k)*5))))) (decide ((getInt c (off+((Int.toNat k)*5)))<(Int.ofNat n)))) (cond (and true (isInt .i64 c0 ((off0+((Int.toNat (getInt c (off+((Int.toNat k)*5))))*7))+2))) (cond (decide ((getInt c (off+((Int.toNat k)*5)))=(getInt c (off+((Int.toNat k)*5))))) (cond (decide ((getInt c ((off+((Int.toNat k)*5))+1))=(getInt c ((off+((Int.toNat k)*5))+1)))) (cond (decide ((getInt c (((off+((Int.toNat k)*5))+1)+1))=(getInt c (((off+((Int.toNat k)*5))+1)+1))))
 (cond (decide ((getInt c ((((off+((Int.toNat k)*5))+1)+1)+1))=(getInt c ((((off+((Int.toNat k)*5))+1)+1)+1)))) (cond (decide ((getInt c (((((off+((Int.toNat k)*5))+1)+1)+1)+1))=(getInt c (((((off+((Int.toNat k)*5))+1)+1)+1)+1)))) (cond (decide ((getInt c (off+((Int.toNat k)*5)))=(getInt c (off+((Int.toNat k)*5))))) (cond (decide ((getInt c ((off+((Int.toNat k)*5))+1))=(getInt c ((off+((Int.toNat k)*5))+1)))) (cond (decide ((getInt c (((off+((Int.toNat k)*5))+1)+1))=(getInt c (((off+((Int.toNat k)*5))+1)+1)))) (cond (decide ((getInt c ((((off+((Int.toNat k)*5))+1)+1)+1))=(getInt c ((((off+((Int.toNat k)*5))+1)+1)+1)))) (cond (decide ((getInt c (((((off+((Int.toNat k)*5))+1)+1)+1)+1))=(getInt c (((((off+((Int.toNat k)*5))+1)+1)+1)+1)))) (cond (Nat.blt (Nat.sub (Int.toNat m) (Int.toNat (IntKind.wrap .i64 (k+(1:Int))))) M) (cond (eqCode (theLoop Try.prog 110 0) (theLoop Try.prog 110 0))
 (cond (okHear 128 ((hdH (.cells c0 true) (.cells c true) o2 (obG 128 q) (tkV off0 n off n2 d n3 z3 age shear) (quV lo hi tick now) (fvG 128) now (max xl (IntKind.wrap .i64 ((getInt c ((((off+((Int.toNat k)*5))+1)+1)+1))-(dbW c0 off0 c off age shear lo hi tick (Int.toNat k))))) (min xh (IntKind.wrap .i64 ((getInt c ((((off+((Int.toNat k)*5))+1)+1)+1))+(dbW c0 off0 c off age shear lo hi tick (Int.toNat k))))) (max yl (IntKind.wrap .i64 ((getInt c (((((off+((Int.toNat k)*5))+1)+1)+1)+1))-(dbW c0 off0 c off age shear lo hi tick (Int.toNat k))))) (min yh (IntKind.wrap .i64 ((getInt c (((((off+((Int.toNat k)*5))+1)+1)+1)+1))+(dbW c0 off0 c off age shear lo hi tick (Int.toNat k))))) true)++[(Ob.cells ⟨[(.int .i64 (getInt c (off+((Int.toNat k)*5)))),(.int .i64 (getInt c ((off+((Int.toNat k)*5))+1))),(.int .i64 (getInt c (((off+((Int.toNat k)*5))+1)+1))),(.int .i64 (getInt c ((((off+((Int.toNat k)*5))+1)+1)+1))),(.int .i64 (getInt c (((((off+((Int.toNat k)*5))+1)+1)+1)+1)))]⟩ false),(Ob.cells ⟨[(.string (getStr c0 (off0+((Int.toNat (getInt c (off+((Int.toNat k)*5))))*7)))),(.int .i64 (getInt c0 ((off0+((Int.toNat (getInt c (off+((Int.toNat k)*5))))*7))+1))),(.int .i64 (getInt c0 (((off0+((Int.toNat (getInt c (off+((Int.toNat k)*5))))*7))+1)+1))),(.int .i64 (getInt c0 ((((off0+((Int.toNat (getInt c (off+((Int.toNat k)*5))))*7))+1)+1)+1))),(.int .i64 (getInt c0 (((((off0+((Int.toNat (getInt c (off+((Int.toNat k)*5))))*7))+1)+1)+1)+1))),(.int .i64 (getInt c0 ((((((off0+((Int.toNat (getInt c (off+((Int.toNat k)*5))))*7))+1)+1)+1)+1)+1))),(.int .i64 (getInt c0 (((((((off0+((Int.toNat (getInt c (off+((Int.toNat k)*5))))*7))+1)+1)+1)+1)+1)+1)))]⟩ false),(Ob.cells ⟨[(.int .i64 (getInt c (off+((Int.toNat k)*5)))),(.int .i64 (getInt c ((off+((Int.toNat k)*5))+1))),(.int .i64 (getInt c (((off+((Int.toNat k)*5))+1)+1))),(.int .i64 (getInt c ((((off+((Int.toNat k)*5))+1)+1)+1))),(.int .i64 (getInt c (((((off+((Int.toNat k)*5))+1)+1)+1)+1)))]⟩ false)]) c0 c o2 off0 n off n2 d n3 z3 age shear lo hi tick now (qOf (obG 128 q)) (max xl (IntKind.wrap .i64 ((getInt c ((((off+((Int.toNat k)*5))+1)+1)+1))-(dbW c0 off0 c off age shear lo hi tick (Int.toNat k))))) (min xh (IntKind.wrap .i64 ((getInt c ((((off+((Int.toNat k)*5))+1)+1)+1))+(dbW c0 off0 c off age shear lo hi tick (Int.toNat k))))) (max yl (IntKind.wrap .i64 ((getInt c (((((off+((Int.toNat k)*5))+1)+1)+1)+1))-(dbW c0 off0 c off age shear lo hi tick (Int.toNat k))))) (min yh (IntKind.wrap .i64 ((getInt c (((((off+((Int.toNat k)*5))+1)+1)+1)+1))+(dbW c0 off0 c off age shear lo hi tick (Int.toNat k))))) true m (IntKind.wrap .i64 (k+(1:Int))) 17)
 (some (Out.ex (Ex.exit 0) (St.mk [] [] (Hp.mk (hdH (.cells c0 true) (.cells c true) o2 (obG 128 q) (tkV off0 n off n2 d n3 z3 age shear) (quV lo hi tick now) (fvG 128) now (hXl c0 off0 c off age shear lo hi tick now 128 (qOf (obG 128 q)) (n2-(Int.toNat (IntKind.wrap .i64 (k+(1:Int))))) (Int.toNat (IntKind.wrap .i64 (k+(1:Int)))) (max xl (IntKind.wrap .i64 ((getInt c ((((off+((Int.toNat k)*5))+1)+1)+1))-(dbW c0 off0 c off age shear lo hi tick (Int.toNat k))))) (min xh (IntKind.wrap .i64 ((getInt c ((((off+((Int.toNat k)*5))+1)+1)+1))+(dbW c0 off0 c off age shear lo hi tick (Int.toNat k))))) (max yl (IntKind.wrap .i64 ((getInt c (((((off+((Int.toNat k)*5))+1)+1)+1)+1))-(dbW c0 off0 c off age shear lo hi tick (Int.toNat k))))) (min yh (IntKind.wrap .i64 ((getInt c (((((off+((Int.toNat k)*5))+1)+1)+1)+1))+(dbW c0 off0 c off age shear lo hi tick (Int.toNat k))))) true) (hXh c0 off0 c off age shear lo hi tick now 128 (qOf (obG 128 q)) (n2-(Int.toNat (IntKind.wrap .i64 (k+(1:Int))))) (Int.toNat (IntKind.wrap .i64 (k+(1:Int)))) (max xl (IntKind.wrap .i64 ((getInt c ((((off+((Int.toNat k)*5))+1)+1)+1))-(dbW c0 off0 c off age shear lo hi tick (Int.toNat k))))) (min xh (IntKind.wrap .i64 ((getInt c ((((off+((Int.toNat k)*5))+1)+1)+1))+(dbW c0 off0 c off age shear lo hi tick (Int.toNat k))))) (max yl (IntKind.wrap .i64 ((getInt c (((((off+((Int.toNat k)*5))+1)+1)+1)+1))-(dbW c0 off0 c off age shear lo hi tick (Int.toNat k))))) (min yh (IntKind.wrap .i64 ((getInt c (((((off+((Int.toNat k)*5))+1)+1)+1)+1))+(dbW c0 off0 c off age shear lo hi tick (Int.toNat k))))) true) (hYl c0 off0 c off age shear lo hi tick now 128 (qOf (obG 128 q)) (n2-(Int.toNat (IntKind.wrap .i64 (k+(1:Int))))) (Int.toNat (IntKind.wrap .i64 (k+(1:Int)))) (max xl (IntKind.wrap .i64 ((getInt c ((((off+((Int.toNat k)*5))+1)+1)+1))-(dbW c0 off0 c off age shear lo hi tick (Int.toNat k))))) (min xh (IntKind.wrap .i64 ((getInt c ((((off+((Int.toNat k)*5))+1)+1)+1))+(dbW c0 off0 c off age shear lo hi tick (Int.toNat k))))) (max yl (IntKind.wrap .i64 ((getInt c (((((off+((Int.toNat k)*5))+1)+1)+1)+1))-(dbW c0 off0 c off age shear lo hi tick (Int.toNat k))))) (min yh (IntKind.wrap .i64 ((getInt c (((((off+((Int.toNat k)*5))+1)+1)+1)+1))+(dbW c0 off0 c off age shear lo hi tick (Int.toNat k))))) true) (hYh c0 off0 c off age shear lo hi tick now 128 (qOf (obG 128 q)) (n2-(Int.toNat (IntKind.wrap .i64 (k+(1:Int))))) (Int.toNat (IntKind.wrap .i64 (k+(1:Int)))) (max xl (IntKind.wrap .i64 ((getInt c ((((off+((Int.toNat k)*5))+1)+1)+1))-(dbW c0 off0 c off age shear lo hi tick (Int.toNat k))))) (min xh (IntKind.wrap .i64 ((getInt c ((((off+((Int.toNat k)*5))+1)+1)+1))+(dbW c0 off0 c off age shear lo hi tick (Int.toNat k))))) (max yl (IntKind.wrap .i64 ((getInt c (((((off+((Int.toNat k)*5))+1)+1)+1)+1))-(dbW c0 off0 c off age shear lo hi tick (Int.toNat k))))) (min yh (IntKind.wrap .i64 ((getInt c (((((off+((Int.toNat k)*5))+1)+1)+1)+1))+(dbW c0 off0 c off age shear lo hi tick (Int.toNat k))))) true) (hSm c0 off0 c off age shear lo hi tick now 128 (qOf (obG 128 q)) (n2-(Int.toNat (IntKind.wrap .i64 (k+(1:Int))))) (Int.toNat (IntKind.wrap .i64 (k+(1:Int)))) (max xl (IntKind.wrap .i64 ((getInt c ((((off+((Int.toNat k)*5))+1)+1)+1))-(dbW c0 off0 c off age shear lo hi tick (Int.toNat k))))) (min xh (IntKind.wrap .i64 ((getInt c ((((off+((Int.toNat k)*5))+1)+1)+1))+(dbW c0 off0 c off age shear lo hi tick (Int.toNat k))))) (max yl (IntKind.wrap .i64 ((getInt c (((((off+((Int.toNat k)*5))+1)+1)+1)+1))-(dbW c0 off0 c off age shear lo hi tick (Int.toNat k))))) (min yh (IntKind.wrap .i64 ((getInt c (((((off+((Int.toNat k)*5))+1)+1)+1)+1))+(dbW c0 off0 c off age shear lo hi tick (Int.toNat k))))) true)) 44 [16,12,7,16,12,7,7,7,7,16]))))
 none)
 none)
 none)
 none)
 none)
 none)
 none)
 none)
 none)
 none)
 none)
 none)
 none)
 none)
 none)
 none)
 none)
 none)
 none) (cond (Nat.blt (Nat.sub (Int.toNat m) (Int.toNat (IntKind.wrap .i64 (k+(1:Int))))) M) (cond (eqCode (theLoop Try.prog 110 0) (theLoop Try.prog 110 0))
 (cond (okHear 128 ((hdH (.cells c0 true) (.cells c true) o2 (obG 128 q) (tkV off0 n off n2 d n3 z3 age shear) (quV lo hi tick now) (fvG 128) now xl xh yl yh sm)++[(Ob.cells ⟨[(.int .i64 (getInt c (off+((Int.toNat k)*5)))),(.int .i64 (getInt c ((off+((Int.toNat k)*5))+1))),(.int .i64 (getInt c (((off+((Int.toNat k)*5))+1)+1))),(.int .i64 (getInt c ((((off+((Int.toNat k)*5))+1)+1)+1))),(.int .i64 (getInt c (((((off+((Int.toNat k)*5))+1)+1)+1)+1)))]⟩ false),(Ob.cells ⟨[(.string (getStr c0 (off0+((Int.toNat (getInt c (off+((Int.toNat k)*5))))*7)))),(.int .i64 (getInt c0 ((off0+((Int.toNat (getInt c (off+((Int.toNat k)*5))))*7))+1))),(.int .i64 (getInt c0 (((off0+((Int.toNat (getInt c (off+((Int.toNat k)*5))))*7))+1)+1))),(.int .i64 (getInt c0 ((((off0+((Int.toNat (getInt c (off+((Int.toNat k)*5))))*7))+1)+1)+1))),(.int .i64 (getInt c0 (((((off0+((Int.toNat (getInt c (off+((Int.toNat k)*5))))*7))+1)+1)+1)+1))),(.int .i64 (getInt c0 ((((((off0+((Int.toNat (getInt c (off+((Int.toNat k)*5))))*7))+1)+1)+1)+1)+1))),(.int .i64 (getInt c0 (((((((off0+((Int.toNat (getInt c (off+((Int.toNat k)*5))))*7))+1)+1)+1)+1)+1)+1)))]⟩ false),(Ob.cells ⟨[(.int .i64 (getInt c (off+((Int.toNat k)*5)))),(.int .i64 (getInt c ((off+((Int.toNat k)*5))+1))),(.int .i64 (getInt c (((off+((Int.toNat k)*5))+1)+1))),(.int .i64 (getInt c ((((off+((Int.toNat k)*5))+1)+1)+1))),(.int .i64 (getInt c (((((off+((Int.toNat k)*5))+1)+1)+1)+1)))]⟩ false)]) c0 c o2 off0 n off n2 d n3 z3 age shear lo hi tick now (qOf (obG 128 q)) xl xh yl yh sm m (IntKind.wrap .i64 (k+(1:Int))) 17)
 (some (Out.ex (Ex.exit 0) (St.mk [] [] (Hp.mk (hdH (.cells c0 true) (.cells c true) o2 (obG 128 q) (tkV off0 n off n2 d n3 z3 age shear) (quV lo hi tick now) (fvG 128) now (hXl c0 off0 c off age shear lo hi tick now 128 (qOf (obG 128 q)) (n2-(Int.toNat (IntKind.wrap .i64 (k+(1:Int))))) (Int.toNat (IntKind.wrap .i64 (k+(1:Int)))) xl xh yl yh sm) (hXh c0 off0 c off age shear lo hi tick now 128 (qOf (obG 128 q)) (n2-(Int.toNat (IntKind.wrap .i64 (k+(1:Int))))) (Int.toNat (IntKind.wrap .i64 (k+(1:Int)))) xl xh yl yh sm) (hYl c0 off0 c off age shear lo hi tick now 128 (qOf (obG 128 q)) (n2-(Int.toNat (IntKind.wrap .i64 (k+(1:Int))))) (Int.toNat (IntKind.wrap .i64 (k+(1:Int)))) xl xh yl yh sm) (hYh c0 off0 c off age shear lo hi tick now 128 (qOf (obG 128 q)) (n2-(Int.toNat (IntKind.wrap .i64 (k+(1:Int))))) (Int.toNat (IntKind.wrap .i64 (k+(1:Int)))) xl xh yl yh sm) (hSm c0 off0 c off age shear lo hi tick now 128 (qOf (obG 128 q)) (n2-(Int.toNat (IntKind.wrap .i64 (k+(1:Int))))) (Int.toNat (IntKind.wrap .i64 (k+(1:Int)))) xl xh yl yh sm)) 44 [16,12,7,16,16]))))
 none)
 none)
 none))
 none)
 none) (cond (Nat.blt (Nat.sub (Int.toNat m) (Int.toNat (IntKind.wrap .i64 (k+(1:Int))))) M) (cond (eqCode (theLoop Try.prog 110 0) (theLoop Try.prog 110 0))
 (cond (okHear 128 ((hdH (.cells c0 true) (.cells c true) o2 (obG 128 q) (tkV off0 n off n2 d n3 z3 age shear) (quV lo hi tick now) (fvG 128) now xl xh yl yh sm)++[(Ob.cells ⟨[(.int .i64 (getInt c (off+((Int.toNat k)*5)))),(.int .i64 (getInt c ((off+((Int.toNat k)*5))+1))),(.int .i64 (getInt c (((off+((Int.toNat k)*5))+1)+1))),(.int .i64 (getInt c ((((off+((Int.toNat k)*5))+1)+1)+1))),(.int .i64 (getInt c (((((off+((Int.toNat k)*5))+1)+1)+1)+1)))]⟩ false),(Ob.cells ⟨[(.string (getStr c0 (off0+((Int.toNat (getInt c (off+((Int.toNat k)*5))))*7)))),(.int .i64 (getInt c0 ((off0+((Int.toNat (getInt c (off+((Int.toNat k)*5))))*7))+1))),(.int .i64 (getInt c0 (((off0+((Int.toNat (getInt c (off+((Int.toNat k)*5))))*7))+1)+1))),(.int .i64 (getInt c0 ((((off0+((Int.toNat (getInt c (off+((Int.toNat k)*5))))*7))+1)+1)+1))),(.int .i64 (getInt c0 (((((off0+((Int.toNat (getInt c (off+((Int.toNat k)*5))))*7))+1)+1)+1)+1))),(.int .i64 (getInt c0 ((((((off0+((Int.toNat (getInt c (off+((Int.toNat k)*5))))*7))+1)+1)+1)+1)+1))),(.int .i64 (getInt c0 (((((((off0+((Int.toNat (getInt c (off+((Int.toNat k)*5))))*7))+1)+1)+1)+1)+1)+1)))]⟩ false)]) c0 c o2 off0 n off n2 d n3 z3 age shear lo hi tick now (qOf (obG 128 q)) xl xh yl yh sm m (IntKind.wrap .i64 (k+(1:Int))) 17)
 (some (Out.ex (Ex.exit 0) (St.mk [] [] (Hp.mk (hdH (.cells c0 true) (.cells c true) o2 (obG 128 q) (tkV off0 n off n2 d n3 z3 age shear) (quV lo hi tick now) (fvG 128) now (hXl c0 off0 c off age shear lo hi tick now 128 (qOf (obG 128 q)) (n2-(Int.toNat (IntKind.wrap .i64 (k+(1:Int))))) (Int.toNat (IntKind.wrap .i64 (k+(1:Int)))) xl xh yl yh sm) (hXh c0 off0 c off age shear lo hi tick now 128 (qOf (obG 128 q)) (n2-(Int.toNat (IntKind.wrap .i64 (k+(1:Int))))) (Int.toNat (IntKind.wrap .i64 (k+(1:Int)))) xl xh yl yh sm) (hYl c0 off0 c off age shear lo hi tick now 128 (qOf (obG 128 q)) (n2-(Int.toNat (IntKind.wrap .i64 (k+(1:Int))))) (Int.toNat (IntKind.wrap .i64 (k+(1:Int)))) xl xh yl yh sm) (hYh c0 off0 c off age shear lo hi tick now 128 (qOf (obG 128 q)) (n2-(Int.toNat (IntKind.wrap .i64 (k+(1:Int))))) (Int.toNat (IntKind.wrap .i64 (k+(1:Int)))) xl xh yl yh sm) (hSm c0 off0 c off age shear lo hi tick now 128 (qOf (obG 128 q)) (n2-(Int.toNat (IntKind.wrap .i64 (k+(1:Int))))) (Int.toNat (IntKind.wrap .i64 (k+(1:Int)))) xl xh yl yh sm)) 44 [16,12,7]))))
 none)
 none)
 none)) (cond (Nat.blt (Nat.sub (Int.toNat m) (Int.toNat (IntKind.wrap .i64 (k+(1:Int))))) M) (cond (eqCode (theLoop Try.prog 110 0) (theLoop Try.prog 110 0))
 (cond (okHear 128 ((hdH (.cells c0 true) (.cells c true) o2 (obG 128 q) (tkV off0 n off n2 d n3 z3 age shear) (quV lo hi tick now) (fvG 128) now xl xh yl yh sm)++[(Ob.cells ⟨[(.int .i64 (getInt c (off+((Int.toNat k)*5)))),(.int .i64 (getInt c ((off+((Int.toNat k)*5))+1))),(.int .i64 (getInt c (((off+((Int.toNat k)*5))+1)+1))),(.int .i64 (getInt c ((((off+((Int.toNat k)*5))+1)+1)+1))),(.int .i64 (getInt c (((((off+((Int.toNat k)*5))+1)+1)+1)+1)))]⟩ false),(Ob.cells ⟨[(.string (getStr c0 (off0+((Int.toNat (getInt c (off+((Int.toNat k)*5))))*7)))),(.int .i64 (getInt c0 ((off0+((Int.toNat (getInt c (off+((Int.toNat k)*5))))*7))+1))),(.int .i64 (getInt c0 (((off0+((Int.toNat (getInt c (off+((Int.toNat k)*5))))*7))+1)+1))),(.int .i64 (getInt c0 ((((off0+((Int.toNat (getInt c (off+((Int.toNat k)*5))))*7))+1)+1)+1))),(.int .i64 (getInt c0 (((((off0+((Int.toNat (getInt c (off+((Int.toNat k)*5))))*7))+1)+1)+1)+1))),(.int .i64 (getInt c0 ((((((off0+((Int.toNat (getInt c (off+((Int.toNat k)*5))))*7))+1)+1)+1)+1)+1))),(.int .i64 (getInt c0 (((((((off0+((Int.toNat (getInt c (off+((Int.toNat k)*5))))*7))+1)+1)+1)+1)+1)+1)))]⟩ false)]) c0 c o2 off0 n off n2 d n3 z3 age shear lo hi tick now (qOf (obG 128 q)) xl xh yl yh sm m (IntKind.wrap .i64 (k+(1:Int))) 17)
 (some (Out.ex (Ex.exit 0) (St.mk [] [] (Hp.mk (hdH (.cells c0 true) (.cells c true) o2 (obG 128 q) (tkV off0 n off n2 d n3 z3 age shear) (quV lo hi tick now) (fvG 128) now (hXl c0 off0 c off age shear lo hi tick now 128 (qOf (obG 128 q)) (n2-(Int.toNat (IntKind.wrap .i64 (k+(1:Int))))) (Int.toNat (IntKind.wrap .i64 (k+(1:Int)))) xl xh yl yh sm) (hXh c0 off0 c off age shear lo hi tick now 128 (qOf (obG 128 q)) (n2-(Int.toNat (IntKind.wrap .i64 (k+(1:Int))))) (Int.toNat (IntKind.wrap .i64 (k+(1:Int)))) xl xh yl yh sm) (hYl c0 off0 c off age shear lo hi tick now 128 (qOf (obG 128 q)) (n2-(Int.toNat (IntKind.wrap .i64 (k+(1:Int))))) (Int.toNat (IntKind.wrap .i64 (k+(1:Int)))) xl xh yl yh sm) (hYh c0 off0 c off age shear lo hi tick now 128 (qOf (obG 128 q)) (n2-(Int.toNat (IntKind.wrap .i64 (k+(1:Int))))) (Int.toNat (IntKind.wrap .i64 (k+(1:Int)))) xl xh yl yh sm) (hSm c0 off0 c off age shear lo hi tick now 128 (qOf (obG 128 q)) (n2-(Int.toNat (IntKind.wrap .i64 (k+(1:Int))))) (Int.toNat (IntKind.wrap .i64 (k+(1:Int)))) xl xh yl yh sm)) 44 [16,12,7]))))
 none)
 none)
 none))
 none)
 none)
 none)
 none) (some (Out.ex (Ex.exit 0) (St.mk [] [] (Hp.mk (hdH (.cells c0 true) (.cells c true) o2 (obG 128 q) (tkV off0 n off n2 d n3 z3 age shear) (quV lo hi tick now) (fvG 128) now xl xh yl yh sm) 44 [])))):=by kernel_rfl
theorem treeH88 (J:Task→List Value)(c0 c:Array Value)(o2:Ob)(off0 n off n2:Nat)(d:Option Addr)(n3 z3:Nat)(age shear lo hi tick now q xl xh yl yh:Int)(sm:Bool)(m k:Int)(M:Nat)(y:List Value) :
    evS Try.prog (((shHear 88).ans J).below mesH M |>.or (fun _=>none)) 60 (.code none (.loop (theLoop Try.prog 110 0)) ⟨sets (junkF 44 y) [(0,.func (.yield 16) ⟨[]⟩ ⟨[]⟩),(1,pp 13),(2,pp 14),(8,.slice (some ⟨1,off,none⟩) n2 5),(9,.int .i64 m),(10,.int .i64 k)],[],⟨hdH (.cells c0 true) (.cells c true) o2 (obG 88 q) (tkV off0 n off n2 d n3 z3 age shear) (quV lo hi tick now) (fvG 88) now xl xh yl yh sm,17,[]⟩⟩) (sumK 17 44 pick106) =
    cond (decide (k<m)) (cond (and (decide ((0:Int)≤k)) (decide (k<(Int.ofNat n2)))) (cond (and true (rdOk c [(Leaf.int .i64),(Leaf.int .i64),(Leaf.int .i64),(Leaf.int .i64),(Leaf.int .i64)] (off+((Int.toNat k)*5)))) (cond (and (decide ((0:Int)≤(getInt c (off+((Int.toNat k)*5))))) (decide ((getInt c (off+((Int.toNat k)*5)))<(Int.ofNat n)))) (cond (and true (rdOk c0 [Leaf.str,(Leaf.int .i64),(Leaf.int .i64),(Leaf.int .i64),(Leaf.int .i64),(Leaf.int .i64),(Leaf.int .i64)] (off0+((Int.toNat (getInt c (off+((Int.toNat k)*5))))*7)))) (cond (decide ((IntKind.wrap .i64 ((getInt c ((off+((Int.toNat k)*5))+1))+(getInt c0 ((((off0+((Int.toNat (getInt c (off+((Int.toNat k)*5))))*7))+1)+1)+1))))≤now)) (cond (decide ((IntKind.wrap .i64 (now-(getInt c ((off+((Int.toNat k)*5))+1))))≤(getInt c0 (((((off0+((Int.toNat (getInt c (off+((Int.toNat k)*5))))*7))+1)+1)+1)+1)))) (cond (and (decide ((0:Int)≤k)) (decide (k<(Int.ofNat n2))))
 (cond (and true (rdOk c [(Leaf.int .i64),(Leaf.int .i64),(Leaf.int .i64),(Leaf.int .i64),(Leaf.int .i64)] (off+((Int.toNat k)*5)))) (cond (decide ((getInt c (((off+((Int.toNat k)*5))+1)+1))=(getInt c (((off+((Int.toNat k)*5))+1)+1)))) (cond (decide ((getInt c (((off+((Int.toNat k)*5))+1)+1))=(getInt c (((off+((Int.toNat k)*5))+1)+1)))) (cond (decide (hi=hi)) (cond (decide (hi=hi)) (cond (and (decide ((0:Int)≤(getInt c (off+((Int.toNat k)*5))))) (decide ((getInt c (off+((Int.toNat k)*5)))<(Int.ofNat n)))) (cond (and true (isInt .i64 c0 ((off0+((Int.toNat (getInt c (off+((Int.toNat k)*5))))*7))+2))) (cond (decide ((getInt c (off+((Int.toNat k)*5)))=(getInt c (off+((Int.toNat k)*5))))) (cond (decide ((getInt c ((off+((Int.toNat k)*5))+1))=(getInt c ((off+((Int.toNat k)*5))+1)))) (cond (decide ((getInt c (((off+((Int.toNat k)*5))+1)+1))=(getInt c (((off+((Int.toNat k)*5))+1)+1))))
 (cond (decide ((getInt c ((((off+((Int.toNat k)*5))+1)+1)+1))=(getInt c ((((off+((Int.toNat k)*5))+1)+1)+1)))) (cond (decide ((getInt c (((((off+((Int.toNat k)*5))+1)+1)+1)+1))=(getInt c (((((off+((Int.toNat k)*5))+1)+1)+1)+1)))) (cond (decide ((getInt c (off+((Int.toNat k)*5)))=(getInt c (off+((Int.toNat k)*5))))) (cond (decide ((getInt c ((off+((Int.toNat k)*5))+1))=(getInt c ((off+((Int.toNat k)*5))+1)))) (cond (decide ((getInt c (((off+((Int.toNat k)*5))+1)+1))=(getInt c (((off+((Int.toNat k)*5))+1)+1)))) (cond (decide ((getInt c ((((off+((Int.toNat k)*5))+1)+1)+1))=(getInt c ((((off+((Int.toNat k)*5))+1)+1)+1)))) (cond (decide ((getInt c (((((off+((Int.toNat k)*5))+1)+1)+1)+1))=(getInt c (((((off+((Int.toNat k)*5))+1)+1)+1)+1)))) (cond (Nat.blt (Nat.sub (Int.toNat m) (Int.toNat (IntKind.wrap .i64 (k+(1:Int))))) M) (cond (eqCode (theLoop Try.prog 110 0) (theLoop Try.prog 110 0))
 (cond (okHear 88 ((hdH (.cells c0 true) (.cells c true) o2 (obG 88 q) (tkV off0 n off n2 d n3 z3 age shear) (quV lo hi tick now) (fvG 88) now (max xl (IntKind.wrap .i64 ((getInt c ((((off+((Int.toNat k)*5))+1)+1)+1))-(dbW c0 off0 c off age shear lo hi tick (Int.toNat k))))) (min xh (IntKind.wrap .i64 ((getInt c ((((off+((Int.toNat k)*5))+1)+1)+1))+(dbW c0 off0 c off age shear lo hi tick (Int.toNat k))))) (max yl (IntKind.wrap .i64 ((getInt c (((((off+((Int.toNat k)*5))+1)+1)+1)+1))-(dbW c0 off0 c off age shear lo hi tick (Int.toNat k))))) (min yh (IntKind.wrap .i64 ((getInt c (((((off+((Int.toNat k)*5))+1)+1)+1)+1))+(dbW c0 off0 c off age shear lo hi tick (Int.toNat k))))) true)++[(Ob.cells ⟨[(.int .i64 (getInt c (off+((Int.toNat k)*5)))),(.int .i64 (getInt c ((off+((Int.toNat k)*5))+1))),(.int .i64 (getInt c (((off+((Int.toNat k)*5))+1)+1))),(.int .i64 (getInt c ((((off+((Int.toNat k)*5))+1)+1)+1))),(.int .i64 (getInt c (((((off+((Int.toNat k)*5))+1)+1)+1)+1)))]⟩ false),(Ob.cells ⟨[(.string (getStr c0 (off0+((Int.toNat (getInt c (off+((Int.toNat k)*5))))*7)))),(.int .i64 (getInt c0 ((off0+((Int.toNat (getInt c (off+((Int.toNat k)*5))))*7))+1))),(.int .i64 (getInt c0 (((off0+((Int.toNat (getInt c (off+((Int.toNat k)*5))))*7))+1)+1))),(.int .i64 (getInt c0 ((((off0+((Int.toNat (getInt c (off+((Int.toNat k)*5))))*7))+1)+1)+1))),(.int .i64 (getInt c0 (((((off0+((Int.toNat (getInt c (off+((Int.toNat k)*5))))*7))+1)+1)+1)+1))),(.int .i64 (getInt c0 ((((((off0+((Int.toNat (getInt c (off+((Int.toNat k)*5))))*7))+1)+1)+1)+1)+1))),(.int .i64 (getInt c0 (((((((off0+((Int.toNat (getInt c (off+((Int.toNat k)*5))))*7))+1)+1)+1)+1)+1)+1)))]⟩ false),(Ob.cells ⟨[(.int .i64 (getInt c (off+((Int.toNat k)*5)))),(.int .i64 (getInt c ((off+((Int.toNat k)*5))+1))),(.int .i64 (getInt c (((off+((Int.toNat k)*5))+1)+1))),(.int .i64 (getInt c ((((off+((Int.toNat k)*5))+1)+1)+1))),(.int .i64 (getInt c (((((off+((Int.toNat k)*5))+1)+1)+1)+1)))]⟩ false)]) c0 c o2 off0 n off n2 d n3 z3 age shear lo hi tick now (qOf (obG 88 q)) (max xl (IntKind.wrap .i64 ((getInt c ((((off+((Int.toNat k)*5))+1)+1)+1))-(dbW c0 off0 c off age shear lo hi tick (Int.toNat k))))) (min xh (IntKind.wrap .i64 ((getInt c ((((off+((Int.toNat k)*5))+1)+1)+1))+(dbW c0 off0 c off age shear lo hi tick (Int.toNat k))))) (max yl (IntKind.wrap .i64 ((getInt c (((((off+((Int.toNat k)*5))+1)+1)+1)+1))-(dbW c0 off0 c off age shear lo hi tick (Int.toNat k))))) (min yh (IntKind.wrap .i64 ((getInt c (((((off+((Int.toNat k)*5))+1)+1)+1)+1))+(dbW c0 off0 c off age shear lo hi tick (Int.toNat k))))) true m (IntKind.wrap .i64 (k+(1:Int))) 17)
 (some (Out.ex (Ex.exit 0) (St.mk [] [] (Hp.mk (hdH (.cells c0 true) (.cells c true) o2 (obG 88 q) (tkV off0 n off n2 d n3 z3 age shear) (quV lo hi tick now) (fvG 88) now (hXl c0 off0 c off age shear lo hi tick now 88 (qOf (obG 88 q)) (n2-(Int.toNat (IntKind.wrap .i64 (k+(1:Int))))) (Int.toNat (IntKind.wrap .i64 (k+(1:Int)))) (max xl (IntKind.wrap .i64 ((getInt c ((((off+((Int.toNat k)*5))+1)+1)+1))-(dbW c0 off0 c off age shear lo hi tick (Int.toNat k))))) (min xh (IntKind.wrap .i64 ((getInt c ((((off+((Int.toNat k)*5))+1)+1)+1))+(dbW c0 off0 c off age shear lo hi tick (Int.toNat k))))) (max yl (IntKind.wrap .i64 ((getInt c (((((off+((Int.toNat k)*5))+1)+1)+1)+1))-(dbW c0 off0 c off age shear lo hi tick (Int.toNat k))))) (min yh (IntKind.wrap .i64 ((getInt c (((((off+((Int.toNat k)*5))+1)+1)+1)+1))+(dbW c0 off0 c off age shear lo hi tick (Int.toNat k))))) true) (hXh c0 off0 c off age shear lo hi tick now 88 (qOf (obG 88 q)) (n2-(Int.toNat (IntKind.wrap .i64 (k+(1:Int))))) (Int.toNat (IntKind.wrap .i64 (k+(1:Int)))) (max xl (IntKind.wrap .i64 ((getInt c ((((off+((Int.toNat k)*5))+1)+1)+1))-(dbW c0 off0 c off age shear lo hi tick (Int.toNat k))))) (min xh (IntKind.wrap .i64 ((getInt c ((((off+((Int.toNat k)*5))+1)+1)+1))+(dbW c0 off0 c off age shear lo hi tick (Int.toNat k))))) (max yl (IntKind.wrap .i64 ((getInt c (((((off+((Int.toNat k)*5))+1)+1)+1)+1))-(dbW c0 off0 c off age shear lo hi tick (Int.toNat k))))) (min yh (IntKind.wrap .i64 ((getInt c (((((off+((Int.toNat k)*5))+1)+1)+1)+1))+(dbW c0 off0 c off age shear lo hi tick (Int.toNat k))))) true) (hYl c0 off0 c off age shear lo hi tick now 88 (qOf (obG 88 q)) (n2-(Int.toNat (IntKind.wrap .i64 (k+(1:Int))))) (Int.toNat (IntKind.wrap .i64 (k+(1:Int)))) (max xl (IntKind.wrap .i64 ((getInt c ((((off+((Int.toNat k)*5))+1)+1)+1))-(dbW c0 off0 c off age shear lo hi tick (Int.toNat k))))) (min xh (IntKind.wrap .i64 ((getInt c ((((off+((Int.toNat k)*5))+1)+1)+1))+(dbW c0 off0 c off age shear lo hi tick (Int.toNat k))))) (max yl (IntKind.wrap .i64 ((getInt c (((((off+((Int.toNat k)*5))+1)+1)+1)+1))-(dbW c0 off0 c off age shear lo hi tick (Int.toNat k))))) (min yh (IntKind.wrap .i64 ((getInt c (((((off+((Int.toNat k)*5))+1)+1)+1)+1))+(dbW c0 off0 c off age shear lo hi tick (Int.toNat k))))) true) (hYh c0 off0 c off age shear lo hi tick now 88 (qOf (obG 88 q)) (n2-(Int.toNat (IntKind.wrap .i64 (k+(1:Int))))) (Int.toNat (IntKind.wrap .i64 (k+(1:Int)))) (max xl (IntKind.wrap .i64 ((getInt c ((((off+((Int.toNat k)*5))+1)+1)+1))-(dbW c0 off0 c off age shear lo hi tick (Int.toNat k))))) (min xh (IntKind.wrap .i64 ((getInt c ((((off+((Int.toNat k)*5))+1)+1)+1))+(dbW c0 off0 c off age shear lo hi tick (Int.toNat k))))) (max yl (IntKind.wrap .i64 ((getInt c (((((off+((Int.toNat k)*5))+1)+1)+1)+1))-(dbW c0 off0 c off age shear lo hi tick (Int.toNat k))))) (min yh (IntKind.wrap .i64 ((getInt c (((((off+((Int.toNat k)*5))+1)+1)+1)+1))+(dbW c0 off0 c off age shear lo hi tick (Int.toNat k))))) true) (hSm c0 off0 c off age shear lo hi tick now 88 (qOf (obG 88 q)) (n2-(Int.toNat (IntKind.wrap .i64 (k+(1:Int))))) (Int.toNat (IntKind.wrap .i64 (k+(1:Int)))) (max xl (IntKind.wrap .i64 ((getInt c ((((off+((Int.toNat k)*5))+1)+1)+1))-(dbW c0 off0 c off age shear lo hi tick (Int.toNat k))))) (min xh (IntKind.wrap .i64 ((getInt c ((((off+((Int.toNat k)*5))+1)+1)+1))+(dbW c0 off0 c off age shear lo hi tick (Int.toNat k))))) (max yl (IntKind.wrap .i64 ((getInt c (((((off+((Int.toNat k)*5))+1)+1)+1)+1))-(dbW c0 off0 c off age shear lo hi tick (Int.toNat k))))) (min yh (IntKind.wrap .i64 ((getInt c (((((off+((Int.toNat k)*5))+1)+1)+1)+1))+(dbW c0 off0 c off age shear lo hi tick (Int.toNat k))))) true)) 44 [16,12,7,16,12,7,7,7,7,16]))))
 none)
 none)
 none)
 none)
 none)
 none)
 none)
 none)
 none)
 none)
 none)
 none)
 none)
 none)
 none)
 none)
 none)
 none)
 none)
 none)
 none) (cond (Nat.blt (Nat.sub (Int.toNat m) (Int.toNat (IntKind.wrap .i64 (k+(1:Int))))) M) (cond (eqCode (theLoop Try.prog 110 0) (theLoop Try.prog 110 0))
 (cond (okHear 88 ((hdH (.cells c0 true) (.cells c true) o2 (obG 88 q) (tkV off0 n off n2 d n3 z3 age shear) (quV lo hi tick now) (fvG 88) now xl xh yl yh sm)++[(Ob.cells ⟨[(.int .i64 (getInt c (off+((Int.toNat k)*5)))),(.int .i64 (getInt c ((off+((Int.toNat k)*5))+1))),(.int .i64 (getInt c (((off+((Int.toNat k)*5))+1)+1))),(.int .i64 (getInt c ((((off+((Int.toNat k)*5))+1)+1)+1))),(.int .i64 (getInt c (((((off+((Int.toNat k)*5))+1)+1)+1)+1)))]⟩ false),(Ob.cells ⟨[(.string (getStr c0 (off0+((Int.toNat (getInt c (off+((Int.toNat k)*5))))*7)))),(.int .i64 (getInt c0 ((off0+((Int.toNat (getInt c (off+((Int.toNat k)*5))))*7))+1))),(.int .i64 (getInt c0 (((off0+((Int.toNat (getInt c (off+((Int.toNat k)*5))))*7))+1)+1))),(.int .i64 (getInt c0 ((((off0+((Int.toNat (getInt c (off+((Int.toNat k)*5))))*7))+1)+1)+1))),(.int .i64 (getInt c0 (((((off0+((Int.toNat (getInt c (off+((Int.toNat k)*5))))*7))+1)+1)+1)+1))),(.int .i64 (getInt c0 ((((((off0+((Int.toNat (getInt c (off+((Int.toNat k)*5))))*7))+1)+1)+1)+1)+1))),(.int .i64 (getInt c0 (((((((off0+((Int.toNat (getInt c (off+((Int.toNat k)*5))))*7))+1)+1)+1)+1)+1)+1)))]⟩ false)]) c0 c o2 off0 n off n2 d n3 z3 age shear lo hi tick now (qOf (obG 88 q)) xl xh yl yh sm m (IntKind.wrap .i64 (k+(1:Int))) 17)
 (some (Out.ex (Ex.exit 0) (St.mk [] [] (Hp.mk (hdH (.cells c0 true) (.cells c true) o2 (obG 88 q) (tkV off0 n off n2 d n3 z3 age shear) (quV lo hi tick now) (fvG 88) now (hXl c0 off0 c off age shear lo hi tick now 88 (qOf (obG 88 q)) (n2-(Int.toNat (IntKind.wrap .i64 (k+(1:Int))))) (Int.toNat (IntKind.wrap .i64 (k+(1:Int)))) xl xh yl yh sm) (hXh c0 off0 c off age shear lo hi tick now 88 (qOf (obG 88 q)) (n2-(Int.toNat (IntKind.wrap .i64 (k+(1:Int))))) (Int.toNat (IntKind.wrap .i64 (k+(1:Int)))) xl xh yl yh sm) (hYl c0 off0 c off age shear lo hi tick now 88 (qOf (obG 88 q)) (n2-(Int.toNat (IntKind.wrap .i64 (k+(1:Int))))) (Int.toNat (IntKind.wrap .i64 (k+(1:Int)))) xl xh yl yh sm) (hYh c0 off0 c off age shear lo hi tick now 88 (qOf (obG 88 q)) (n2-(Int.toNat (IntKind.wrap .i64 (k+(1:Int))))) (Int.toNat (IntKind.wrap .i64 (k+(1:Int)))) xl xh yl yh sm) (hSm c0 off0 c off age shear lo hi tick now 88 (qOf (obG 88 q)) (n2-(Int.toNat (IntKind.wrap .i64 (k+(1:Int))))) (Int.toNat (IntKind.wrap .i64 (k+(1:Int)))) xl xh yl yh sm)) 44 [16,12,7]))))
 none)
 none)
 none)) (cond (Nat.blt (Nat.sub (Int.toNat m) (Int.toNat (IntKind.wrap .i64 (k+(1:Int))))) M) (cond (eqCode (theLoop Try.prog 110 0) (theLoop Try.prog 110 0))
 (cond (okHear 88 ((hdH (.cells c0 true) (.cells c true) o2 (obG 88 q) (tkV off0 n off n2 d n3 z3 age shear) (quV lo hi tick now) (fvG 88) now xl xh yl yh sm)++[(Ob.cells ⟨[(.int .i64 (getInt c (off+((Int.toNat k)*5)))),(.int .i64 (getInt c ((off+((Int.toNat k)*5))+1))),(.int .i64 (getInt c (((off+((Int.toNat k)*5))+1)+1))),(.int .i64 (getInt c ((((off+((Int.toNat k)*5))+1)+1)+1))),(.int .i64 (getInt c (((((off+((Int.toNat k)*5))+1)+1)+1)+1)))]⟩ false),(Ob.cells ⟨[(.string (getStr c0 (off0+((Int.toNat (getInt c (off+((Int.toNat k)*5))))*7)))),(.int .i64 (getInt c0 ((off0+((Int.toNat (getInt c (off+((Int.toNat k)*5))))*7))+1))),(.int .i64 (getInt c0 (((off0+((Int.toNat (getInt c (off+((Int.toNat k)*5))))*7))+1)+1))),(.int .i64 (getInt c0 ((((off0+((Int.toNat (getInt c (off+((Int.toNat k)*5))))*7))+1)+1)+1))),(.int .i64 (getInt c0 (((((off0+((Int.toNat (getInt c (off+((Int.toNat k)*5))))*7))+1)+1)+1)+1))),(.int .i64 (getInt c0 ((((((off0+((Int.toNat (getInt c (off+((Int.toNat k)*5))))*7))+1)+1)+1)+1)+1))),(.int .i64 (getInt c0 (((((((off0+((Int.toNat (getInt c (off+((Int.toNat k)*5))))*7))+1)+1)+1)+1)+1)+1)))]⟩ false)]) c0 c o2 off0 n off n2 d n3 z3 age shear lo hi tick now (qOf (obG 88 q)) xl xh yl yh sm m (IntKind.wrap .i64 (k+(1:Int))) 17)
 (some (Out.ex (Ex.exit 0) (St.mk [] [] (Hp.mk (hdH (.cells c0 true) (.cells c true) o2 (obG 88 q) (tkV off0 n off n2 d n3 z3 age shear) (quV lo hi tick now) (fvG 88) now (hXl c0 off0 c off age shear lo hi tick now 88 (qOf (obG 88 q)) (n2-(Int.toNat (IntKind.wrap .i64 (k+(1:Int))))) (Int.toNat (IntKind.wrap .i64 (k+(1:Int)))) xl xh yl yh sm) (hXh c0 off0 c off age shear lo hi tick now 88 (qOf (obG 88 q)) (n2-(Int.toNat (IntKind.wrap .i64 (k+(1:Int))))) (Int.toNat (IntKind.wrap .i64 (k+(1:Int)))) xl xh yl yh sm) (hYl c0 off0 c off age shear lo hi tick now 88 (qOf (obG 88 q)) (n2-(Int.toNat (IntKind.wrap .i64 (k+(1:Int))))) (Int.toNat (IntKind.wrap .i64 (k+(1:Int)))) xl xh yl yh sm) (hYh c0 off0 c off age shear lo hi tick now 88 (qOf (obG 88 q)) (n2-(Int.toNat (IntKind.wrap .i64 (k+(1:Int))))) (Int.toNat (IntKind.wrap .i64 (k+(1:Int)))) xl xh yl yh sm) (hSm c0 off0 c off age shear lo hi tick now 88 (qOf (obG 88 q)) (n2-(Int.toNat (IntKind.wrap .i64 (k+(1:Int))))) (Int.toNat (IntKind.wrap .i64 (k+(1:Int)))) xl xh yl yh sm)) 44 [16,12,7]))))
 none)
 none)
 none))
 none)
 none)
 none)
 none) (some (Out.ex (Ex.exit 0) (St.mk [] [] (Hp.mk (hdH (.cells c0 true) (.cells c true) o2 (obG 88 q) (tkV off0 n off n2 d n3 z3 age shear) (quV lo hi tick now) (fvG 88) now xl xh yl yh sm) 44 [])))):=by kernel_rfl
theorem begun_bd {l s L:Int}(hs:0<s) (h0:0≤l) (h1:l≤L):0≤begunI l s∧begunI l s≤(L+s-1) / s:=by
  unfold begunI
  rw [Int.tdiv_eq_ediv_of_nonneg (by omega)]
  exact ⟨Int.ediv_nonneg (by omega) (by omega),Int.ediv_le_ediv hs (by omega)⟩
theorem db_core {err tk h age shear lo hi tick:Int}(e0:0≤err) (e1:err≤5000) (t0:0≤tk) (t1:tk≤100000) (k0:0≤tick) (k1:tick≤100000) (h0:0≤h) (h1:h≤99999999) (l0:0≤lo) (l1:lo≤100000000) (i0:0≤hi) (i1:hi≤100000000)
    (a0:0≤age) (a1:age≤1000) (s0:0≤shear) (s1:shear≤1000) :
    IntKind.i64.wrap (IntKind.i64.wrap (err+IntKind.i64.wrap (age*IntKind.i64.wrap (Int.tdiv (IntKind.i64.wrap (IntKind.i64.wrap (max (IntKind.i64.wrap (tk-tick)) (IntKind.i64.wrap (tick-tk))+600)-1)) 600))) +
      IntKind.i64.wrap (shear*IntKind.i64.wrap (Int.tdiv (IntKind.i64.wrap (IntKind.i64.wrap (max (max (IntKind.i64.wrap (h-lo)) (IntKind.i64.wrap (lo-h))) (max (IntKind.i64.wrap (h-hi)) (IntKind.i64.wrap (hi-h)))+100000)-1)) 100000))) =
    err+age*begunI (absI tk tick) 600+shear*begunI (max (absI h lo) (absI h hi)) 100000 ∧
    0≤err+age*begunI (absI tk tick) 600+shear*begunI (max (absI h lo) (absI h hi)) 100000∧err+age*begunI (absI tk tick) 600+shear*begunI (max (absI h lo) (absI h hi)) 100000≤3000000:=by
  have A0:0≤absI tk tick:=by unfold absI;omega
  have A1:absI tk tick≤100000:=by unfold absI;omega
  have B0:0≤max (absI h lo) (absI h hi):=by unfold absI;omega
  have B1:max (absI h lo) (absI h hi)≤100000000:=by unfold absI;omega
  obtain ⟨C0,C1⟩:=begun_bd (s:=600) (by omega) A0 A1
  obtain ⟨D0,D1⟩:=begun_bd (s:=100000) (by omega) B0 B1
  have C2:begunI (absI tk tick) 600≤168:=by omega
  have D2:begunI (max (absI h lo) (absI h hi)) 100000≤1001:=by omega
  have E0:0≤age*begunI (absI tk tick) 600:=Int.mul_nonneg a0 C0
  have E1:age*begunI (absI tk tick) 600≤1000*168:=Int.mul_le_mul a1 C2 C0 (by omega)
  have F0:0≤shear*begunI (max (absI h lo) (absI h hi)) 100000:=Int.mul_nonneg s0 D0
  have F1:shear*begunI (max (absI h lo) (absI h hi)) 100000≤1000*1001:=Int.mul_le_mul s1 D2 D0 (by omega)
  refine ⟨?_,by omega,by omega⟩
  rw [wrap64_id (x:=tk-tick) (by omega) (by omega),wrap64_id (x:=tick-tk) (by omega) (by omega),wrap64_id (x:=h-lo) (by omega) (by omega),wrap64_id (x:=lo-h) (by omega) (by omega),
    wrap64_id (x:=h-hi) (by omega) (by omega),wrap64_id (x:=hi-h) (by omega) (by omega)]
  have ga:max (tk-tick) (tick-tk)=absI tk tick:=rfl
  have gl:max (h-lo) (lo-h)=absI h lo:=rfl
  have gh:max (h-hi) (hi-h)=absI h hi:=rfl
  rw [ga,gl,gh]
  generalize absI tk tick=A at *
  generalize max (absI h lo) (absI h hi)=B at *
  rw [wrap64_id (x:=A+600) (by omega) (by omega),wrap64_id (x:=A+600-1) (by omega) (by omega),wrap64_id (x:=B+100000) (by omega) (by omega),wrap64_id (x:=B+100000-1) (by omega) (by omega)]
  have gA:Int.tdiv (A+600-1) 600=begunI A 600:=rfl
  have gB:Int.tdiv (B+100000-1) 100000=begunI B 100000:=rfl
  rw [gA,gB,wrap64_id (x:=begunI A 600) (by omega) (by omega),wrap64_id (x:=begunI B 100000) (by omega) (by omega),wrap64_id (x:=age*begunI A 600) (by omega) (by omega),wrap64_id (x:=shear*begunI B 100000) (by omega) (by omega),
    wrap64_id (x:=err+age*begunI A 600) (by omega) (by omega),wrap64_id (by omega) (by omega)]
theorem dbW_eq {c0:Array Value}{off0 n:Nat}{c:Array Value}{off n2:Nat}{age shear lo hi tick now:Int}(hv:Vld c0 off0 n c off n2 age shear) (hq:Qst lo hi tick now) {k:Nat}(hk:k<n2) :
    dbW c0 off0 c off age shear lo hi tick k=dbI c0 off0 c off age shear lo hi tick k∧0≤dbI c0 off0 c off age shear lo hi tick k∧dbI c0 off0 c off age shear lo hi tick k≤3000000:=by
  have hs:=hv.src k hk
  have hi:(getInt c (off+k*5)).toNat<n:=by omega
  exact db_core (hv.err _ hi).1 (hv.err _ hi).2 (hv.tick k hk).1 (hv.tick k hk).2 hq.tick.1 hq.tick.2 (hv.height k hk).1 (hv.height k hk).2 hq.lo.1 hq.lo.2 hq.hi.1 hq.hi.2 hv.age.1 hv.age.2 hv.shear.1 hv.shear.2
section
variable {c0:Array Value}{off0:Nat}{c:Array Value}{off:Nat}{age shear lo hi tick now:Int}{g:Nat}{q:Int}{m k:Nat}{a b x y:Int}{s:Bool}
theorem hXl_hit (h1:knP c0 off0 c off now k=true) (h2:chB g q (getInt c (off+k*5))=true):hXl c0 off0 c off age shear lo hi tick now g q (m+1) k a b x y s =
    hXl c0 off0 c off age shear lo hi tick now g q m (k+1) (max a (getInt c (off+k*5+3)-dbI c0 off0 c off age shear lo hi tick k)) (min b (getInt c (off+k*5+3)+dbI c0 off0 c off age shear lo hi tick k)) (max x (getInt c (off+k*5+4)-dbI c0 off0 c off age shear lo hi tick k)) (min y (getInt c (off+k*5+4)+dbI c0 off0 c off age shear lo hi tick k)) true:=by
  unfold hXl;simp only [hdR,h1,h2,and_self,if_true]
theorem hXl_miss (h:¬(knP c0 off0 c off now k=true∧chB g q (getInt c (off+k*5))=true)):hXl c0 off0 c off age shear lo hi tick now g q (m+1) k a b x y s=hXl c0 off0 c off age shear lo hi tick now g q m (k+1) a b x y s:=by
  unfold hXl;simp only [hdR,if_neg h]
theorem hXl_end:hXl c0 off0 c off age shear lo hi tick now g q 0 k a b x y s=a:=rfl
theorem hXh_hit (h1:knP c0 off0 c off now k=true) (h2:chB g q (getInt c (off+k*5))=true):hXh c0 off0 c off age shear lo hi tick now g q (m+1) k a b x y s =
    hXh c0 off0 c off age shear lo hi tick now g q m (k+1) (max a (getInt c (off+k*5+3)-dbI c0 off0 c off age shear lo hi tick k)) (min b (getInt c (off+k*5+3)+dbI c0 off0 c off age shear lo hi tick k)) (max x (getInt c (off+k*5+4)-dbI c0 off0 c off age shear lo hi tick k)) (min y (getInt c (off+k*5+4)+dbI c0 off0 c off age shear lo hi tick k)) true:=by
  unfold hXh;simp only [hdR,h1,h2,and_self,if_true]
theorem hXh_miss (h:¬(knP c0 off0 c off now k=true∧chB g q (getInt c (off+k*5))=true)):hXh c0 off0 c off age shear lo hi tick now g q (m+1) k a b x y s=hXh c0 off0 c off age shear lo hi tick now g q m (k+1) a b x y s:=by
  unfold hXh;simp only [hdR,if_neg h]
theorem hXh_end:hXh c0 off0 c off age shear lo hi tick now g q 0 k a b x y s=b:=rfl
theorem hYl_hit (h1:knP c0 off0 c off now k=true) (h2:chB g q (getInt c (off+k*5))=true):hYl c0 off0 c off age shear lo hi tick now g q (m+1) k a b x y s =
    hYl c0 off0 c off age shear lo hi tick now g q m (k+1) (max a (getInt c (off+k*5+3)-dbI c0 off0 c off age shear lo hi tick k)) (min b (getInt c (off+k*5+3)+dbI c0 off0 c off age shear lo hi tick k)) (max x (getInt c (off+k*5+4)-dbI c0 off0 c off age shear lo hi tick k)) (min y (getInt c (off+k*5+4)+dbI c0 off0 c off age shear lo hi tick k)) true:=by
  unfold hYl;simp only [hdR,h1,h2,and_self,if_true]
theorem hYl_miss (h:¬(knP c0 off0 c off now k=true∧chB g q (getInt c (off+k*5))=true)):hYl c0 off0 c off age shear lo hi tick now g q (m+1) k a b x y s=hYl c0 off0 c off age shear lo hi tick now g q m (k+1) a b x y s:=by
  unfold hYl;simp only [hdR,if_neg h]
theorem hYl_end:hYl c0 off0 c off age shear lo hi tick now g q 0 k a b x y s=x:=rfl
theorem hYh_hit (h1:knP c0 off0 c off now k=true) (h2:chB g q (getInt c (off+k*5))=true):hYh c0 off0 c off age shear lo hi tick now g q (m+1) k a b x y s =
    hYh c0 off0 c off age shear lo hi tick now g q m (k+1) (max a (getInt c (off+k*5+3)-dbI c0 off0 c off age shear lo hi tick k)) (min b (getInt c (off+k*5+3)+dbI c0 off0 c off age shear lo hi tick k)) (max x (getInt c (off+k*5+4)-dbI c0 off0 c off age shear lo hi tick k)) (min y (getInt c (off+k*5+4)+dbI c0 off0 c off age shear lo hi tick k)) true:=by
  unfold hYh;simp only [hdR,h1,h2,and_self,if_true]
theorem hYh_miss (h:¬(knP c0 off0 c off now k=true∧chB g q (getInt c (off+k*5))=true)):hYh c0 off0 c off age shear lo hi tick now g q (m+1) k a b x y s=hYh c0 off0 c off age shear lo hi tick now g q m (k+1) a b x y s:=by
  unfold hYh;simp only [hdR,if_neg h]
theorem hYh_end:hYh c0 off0 c off age shear lo hi tick now g q 0 k a b x y s=y:=rfl
theorem hSm_hit (h1:knP c0 off0 c off now k=true) (h2:chB g q (getInt c (off+k*5))=true):hSm c0 off0 c off age shear lo hi tick now g q (m+1) k a b x y s =
    hSm c0 off0 c off age shear lo hi tick now g q m (k+1) (max a (getInt c (off+k*5+3)-dbI c0 off0 c off age shear lo hi tick k)) (min b (getInt c (off+k*5+3)+dbI c0 off0 c off age shear lo hi tick k)) (max x (getInt c (off+k*5+4)-dbI c0 off0 c off age shear lo hi tick k)) (min y (getInt c (off+k*5+4)+dbI c0 off0 c off age shear lo hi tick k)) true:=by
  unfold hSm;simp only [hdR,h1,h2,and_self,if_true]
theorem hSm_miss (h:¬(knP c0 off0 c off now k=true∧chB g q (getInt c (off+k*5))=true)):hSm c0 off0 c off age shear lo hi tick now g q (m+1) k a b x y s=hSm c0 off0 c off age shear lo hi tick now g q m (k+1) a b x y s:=by
  unfold hSm;simp only [hdR,if_neg h]
theorem hSm_end:hSm c0 off0 c off age shear lo hi tick now g q 0 k a b x y s=s:=rfl
end
theorem kept_self {n:Nat}{o:Ob}(h:obSc n o=true):obKept n o o=true:=by unfold obKept;rw [h];cases o.live<;>cases o.rw<;>rfl
theorem hsc117 (c0 c:Array Value)(o2:Ob)(off0 n off n2:Nat)(d:Option Addr)(n3 z3:Nat)(age shear lo hi tick now q xl xh yl yh:Int)(sm:Bool)(h0:c0.toList.all g0=true)(h1:c.toList.all g0=true)(h2:grOb o2)(hd:sc1 3 (.slice d n3 z3)=true) :
    (hdH (.cells c0 true) (.cells c true) o2 (obG 117 q) (tkV off0 n off n2 d n3 z3 age shear) (quV lo hi tick now) (fvG 117) now xl xh yl yh sm).all (obSc 17)=true:=by
  have q0:=obSc_g0 (n:=17) (r:=true) h0
  have q1:=obSc_g0 (n:=17) (r:=true) h1
  have q2:=grOb_sc (n:=17) h2
  unfold hdH
  rw [List.all_cons,q0,List.all_cons,q1,List.all_cons,q2]
  cases d with
  | none =>
    obtain ⟨rfl,rfl⟩:n3=0∧z3=0:=by simpa [sc1,sc0,g0] using hd
    rfl
  | some y =>
    have hy:y.block<17:=by
      simp only [sc1,sc0,decide_eq_true_eq]at hd
      omega
    simp [tkV,quV,tmH,uV,obSc,obG,fvG,sc1,scA,scT,sc0,g0,gA,hy]
theorem kept117 {c0 c:Array Value}{o2:Ob}{off0 n off n2:Nat}{d:Option Addr}{n3 z3:Nat} {age shear lo hi tick now q xl xh yl yh xl' xh' yl' yh':Int} {sm sm':Bool}(h0:c0.toList.all g0=true) (h1:c.toList.all g0=true) (h2:grOb o2) (hd:sc1 3 (.slice d n3 z3)=true) :
    ObsKept 17 (hdH (.cells c0 true) (.cells c true) o2 (obG 117 q) (tkV off0 n off n2 d n3 z3 age shear) (quV lo hi tick now) (fvG 117) now xl xh yl yh sm) (hdH (.cells c0 true) (.cells c true) o2 (obG 117 q) (tkV off0 n off n2 d n3 z3 age shear) (quV lo hi tick now) (fvG 117) now xl' xh' yl' yh' sm'):=by
  have hs:=hsc117 c0 c o2 off0 n off n2 d n3 z3 age shear lo hi tick now q xl' xh' yl' yh' sm' h0 h1 h2 hd
  unfold hdH at hs ⊢
  simp only [List.all_cons,Bool.and_eq_true]at hs
  obtain ⟨s0,s1,s2,s3,s4,s5,s6,s7,s8,s9,s10,s11,s12,s13,s14,s15,s16,_⟩:=hs
  exact .cons (kept_self s0) (.cons (kept_self s1) (.cons (kept_self s2) (.cons (kept_self s3) (.cons (kept_self s4) (.cons (kept_self s5) (.cons (kept_self s6) (.cons rfl (.cons (kept_self s8) (.cons (kept_self s9) (.cons (kept_self s10)
    (.cons (kept_self s11) (.cons rfl (.cons (kept_self s13) (.cons (kept_self s14) (.cons (kept_self s15) (.cons (kept_self s16) .nil))))))))))))))))
theorem stepH117 (J:Task→List Value) {c0 c:Array Value}{o2:Ob}{off0 n off n2:Nat}{d:Option Addr}{n3 z3:Nat}{age shear lo hi tick now q xl xh yl yh:Int}{sm:Bool}{k:Nat}{M:Nat}(y:List Value)
    (hv:Vld c0 off0 n c off n2 age shear) (hq:Qst lo hi tick now) (hd:sc1 3 (.slice d n3 z3)=true) (ho2:grOb o2)
    (b1:-100000000≤xl) (b2:xl≤100000000) (b3:-100000000≤xh) (b4:xh≤100000000) (b5:-100000000≤yl) (b6:yl≤100000000) (b7:-100000000≤yh) (b8:yh≤100000000) (hM:k<n2→(Nat.sub n2 (k+1)).blt M=true) :
    ∃wr1,evS Try.prog ((((shHear 117).ans J).below mesH M).or (fun _=>none)) 60 (.code none (.loop (theLoop Try.prog 110 0)) ⟨sets (junkF 44 y) [(0,.func (.yield 16) ⟨[]⟩ ⟨[]⟩),(1,pp 13),(2,pp 14),(8,.slice (some ⟨1,off,none⟩) n2 5),(9,.int .i64 (n2:Int)),(10,.int .i64 (k:Int))],[],⟨hdH (.cells c0 true) (.cells c true) o2 (obG 117 q) (tkV off0 n off n2 d n3 z3 age shear) (quV lo hi tick now) (fvG 117) now xl xh yl yh sm,17,[]⟩⟩) (sumK 17 44 pick106) =
      some (.ex (.exit 0) ⟨[],[],⟨hdH (.cells c0 true) (.cells c true) o2 (obG 117 q) (tkV off0 n off n2 d n3 z3 age shear) (quV lo hi tick now) (fvG 117) now (hXl c0 off0 c off age shear lo hi tick now 117 (qOf (obG 117 q)) (n2-k) k xl xh yl yh sm) (hXh c0 off0 c off age shear lo hi tick now 117 (qOf (obG 117 q)) (n2-k) k xl xh yl yh sm) (hYl c0 off0 c off age shear lo hi tick now 117 (qOf (obG 117 q)) (n2-k) k xl xh yl yh sm) (hYh c0 off0 c off age shear lo hi tick now 117 (qOf (obG 117 q)) (n2-k) k xl xh yl yh sm) (hSm c0 off0 c off age shear lo hi tick now 117 (qOf (obG 117 q)) (n2-k) k xl xh yl yh sm),44,wr1⟩⟩)∧∀b∈wr1,b∈[16,12,7]:=by
  rw [treeH117]
  by_cases hin:(k:Int)<n2
  · obtain ⟨m,hm⟩:∃m,n2-k=m+1:=⟨n2-k-1,by omega⟩
    have hkn2:k<n2:=by omega
    have hm':n2-(k+1)=m:=by omega
    have hfew:=hv.few2
    have hw:IntKind.i64.wrap ((k:Int)+1)=((k+1:Nat):Int):=by rw [wrap64_id (by omega) (by omega)];rfl
    have hme:=hM hkn2
    obtain ⟨s0,s1⟩:=hv.src k hkn2
    have hsn:(getInt c (off+k*5)).toNat<n:=by omega
    have rd5:rdOk c [.int .i64,.int .i64,.int .i64,.int .i64,.int .i64] (off+k*5)=true:=hv.g1.2 k hkn2
    have rd7:rdOk c0 [.str,.int .i64,.int .i64,.int .i64,.int .i64,.int .i64,.int .i64] (off0+(getInt c (off+k*5)).toNat*7)=true:=hv.g0.2 _ hsn
    have is2:isInt .i64 c0 (off0+(getInt c (off+k*5)).toNat*7+2)=true:=by
      have:=rd7
      simp only [rdOk,rdLeaf,Bool.and_eq_true]at this
      exact this.2.2.1
    have tk:=hv.tick k hkn2
    have lt:=hv.late _ hsn
    have w1:IntKind.i64.wrap (getInt c (off+k*5+1)+getInt c0 (off0+(getInt c (off+k*5)).toNat*7+1+1+1))=getInt c (off+k*5+1)+getInt c0 (off0+(getInt c (off+k*5)).toNat*7+1+1+1):=by
      have:getInt c0 (off0+(getInt c (off+k*5)).toNat*7+3)=getInt c0 (off0+(getInt c (off+k*5)).toNat*7+1+1+1):=rfl
      exact wrap64_id (by omega) (by omega)
    have w2:IntKind.i64.wrap (now-getInt c (off+k*5+1))=now-getInt c (off+k*5+1):=by
      have:=hq.now
      exact wrap64_id (by omega) (by omega)
    obtain ⟨dbw,d0,d1⟩:=dbW_eq hv hq hkn2
    have hx:-20000≤getInt c (off+k*5+1+1+1)∧getInt c (off+k*5+1+1+1)≤20000:=hv.x k hkn2
    have hy:-20000≤getInt c (off+k*5+1+1+1+1)∧getInt c (off+k*5+1+1+1+1)≤20000:=hv.y k hkn2
    have x1:IntKind.i64.wrap (getInt c (off+k*5+1+1+1)-dbI c0 off0 c off age shear lo hi tick k)=getInt c (off+k*5+3)-dbI c0 off0 c off age shear lo hi tick k:=wrap64_id (by omega) (by omega)
    have x2:IntKind.i64.wrap (getInt c (off+k*5+1+1+1)+dbI c0 off0 c off age shear lo hi tick k)=getInt c (off+k*5+3)+dbI c0 off0 c off age shear lo hi tick k:=wrap64_id (by omega) (by omega)
    have y1:IntKind.i64.wrap (getInt c (off+k*5+1+1+1+1)-dbI c0 off0 c off age shear lo hi tick k)=getInt c (off+k*5+4)-dbI c0 off0 c off age shear lo hi tick k:=wrap64_id (by omega) (by omega)
    have y2:IntKind.i64.wrap (getInt c (off+k*5+1+1+1+1)+dbI c0 off0 c off age shear lo hi tick k)=getInt c (off+k*5+4)+dbI c0 off0 c off age shear lo hi tick k:=wrap64_id (by omega) (by omega)
    have hok:∀X xl xh yl yh sm,-100000000≤xl→xl≤100000000→-100000000≤xh→xh≤100000000→-100000000≤yl→yl≤100000000→-100000000≤yh→yh≤100000000 →
        okHear 117 (hdH (.cells c0 true) (.cells c true) o2 (obG 117 q) (tkV off0 n off n2 d n3 z3 age shear) (quV lo hi tick now) (fvG 117) now xl xh yl yh sm++X) c0 c o2 off0 n off n2 d n3 z3 age shear lo hi tick now (qOf (obG 117 q)) xl xh yl yh sm (n2:Int) ((k+1:Nat):Int) 17=true :=
      fun X xl xh yl yh sm c1 c2 c3 c4 c5 c6 c7 c8=>dec_iff.2 ⟨⟨X,rfl⟩,hv,hq,hd,ho2,c1,c2,c3,c4,c5,c6,c7,c8,rfl,by omega,rfl⟩
    have hok1:=fun X=>hok X xl xh yl yh sm b1 b2 b3 b4 b5 b6 b7 b8
    have hx3:-20000≤getInt c (off+k*5+3)∧getInt c (off+k*5+3)≤20000:=hx
    have hy4:-20000≤getInt c (off+k*5+4)∧getInt c (off+k*5+4)≤20000:=hy
    have hok2:=fun X=>hok X (max xl (getInt c (off+k*5+3)-dbI c0 off0 c off age shear lo hi tick k)) (min xh (getInt c (off+k*5+3)+dbI c0 off0 c off age shear lo hi tick k)) (max yl (getInt c (off+k*5+4)-dbI c0 off0 c off age shear lo hi tick k)) (min yh (getInt c (off+k*5+4)+dbI c0 off0 c off age shear lo hi tick k)) true (by omega) (by omega) (by omega) (by omega) (by omega) (by omega) (by omega) (by omega)
    rw [hm]
    have hknP:knP c0 off0 c off now k=(decide (getInt c (off+k*5+1)+getInt c0 (off0+(getInt c (off+k*5)).toNat*7+1+1+1)≤now)&&decide (now-getInt c (off+k*5+1)≤getInt c0 (off0+(getInt c (off+k*5)).toNat*7+1+1+1+1))):=rfl
    simp only [Int.ofNat_eq_natCast,Int.toNat_natCast,hin,hw,s0,s1,rd5,rd7,is2,w1,w2,dbw,x1,x2,y1,y2,hme,hm',hok1,hok2,eqCode_self,decide_true,Bool.and_self,cond_true,Int.natCast_nonneg]
    cases dA:decide (getInt c (off+k*5+1)+getInt c0 (off0+(getInt c (off+k*5)).toNat*7+1+1+1)≤now) with
    | true =>
     cases dB:decide (now-getInt c (off+k*5+1)≤getInt c0 (off0+(getInt c (off+k*5)).toNat*7+1+1+1+1)) with
     | true =>
        have hkn1:knP c0 off0 c off now k=true:=by rw [hknP,dA,dB];rfl
        cases dC:decide (getInt c (off+k*5)=q) with
        | true =>
          have hC:=of_decide_eq_true dC
          have hch:chB 117 (qOf (obG 117 q)) (getInt c (off+k*5))=true:=decide_eq_true hC
          rw [hXl_hit hkn1 hch,hXh_hit hkn1 hch,hYl_hit hkn1 hch,hYh_hit hkn1 hch,hSm_hit hkn1 hch]
          refine ⟨[16,12,7,16,12,7,7,7,7,16],?_,by simp⟩
          simp only [dA,dB,dC,cond_true,cond_false,Bool.not_true,Bool.not_false]
        | false =>
          have hC:=of_decide_eq_false dC
          have e:¬(knP c0 off0 c off now k=true∧chB 117 (qOf (obG 117 q)) (getInt c (off+k*5))=true):=by
            rintro ⟨_,h⟩;simp only [chB,Bool.not_eq_true',decide_eq_false_iff_not,decide_eq_true_eq]at h;exact hC h
          rw [hXl_miss e,hXh_miss e,hYl_miss e,hYh_miss e,hSm_miss e]
          refine ⟨[16,12,7,16,16],?_,by simp⟩
          simp only [dA,dB,dC,cond_true,cond_false,Bool.not_true,Bool.not_false]
     | false =>
        have e:¬(knP c0 off0 c off now k=true∧chB 117 (qOf (obG 117 q)) (getInt c (off+k*5))=true):=by
          rw [hknP,dA,dB];simp
        rw [hXl_miss e,hXh_miss e,hYl_miss e,hYh_miss e,hSm_miss e]
        refine ⟨[16,12,7],?_,by simp⟩
        simp only [dA,dB,cond_true,cond_false,Bool.not_true,Bool.not_false]
    | false =>
        have e:¬(knP c0 off0 c off now k=true∧chB 117 (qOf (obG 117 q)) (getInt c (off+k*5))=true):=by
          rw [hknP,dA];simp
        rw [hXl_miss e,hXh_miss e,hYl_miss e,hYh_miss e,hSm_miss e]
        refine ⟨[16,12,7],?_,by simp⟩
        simp only [dA,cond_false,Bool.not_true,Bool.not_false]
  · have h0:n2-k=0:=by omega
    rw [h0,hXl_end,hXh_end,hYl_end,hYh_end,hSm_end]
    refine ⟨[],?_,by simp⟩
    simp only [hin,decide_false,cond_false]
theorem knownH117:∃J,Known Try.prog ((shHear 117).ans J):=by
  refine Known.junk (Known.nothing _) mesH (shHear 117) ?_
  intro J t f hs hkn
  unfold shHear at hs
  split at hs
  case h_2=>cases hs
  rename_i code t c0 c o2 o3 H base wr
  split at hs
  case h_2=>cases hs
  rename_i off n2 m k er e0 e1 e2 e8 e9 e10
  split at hs
  case h_2=>cases hs
  rename_i off0 n u d n3 z3 age shear r0
  split at hs
  case h_2=>cases hs
  rename_i lo hi tick now r1
  split at hs
  case h_2=>cases hs
  rename_i xl xh yl yh r3
  split at hs
  case h_2=>cases hs
  rename_i g' fi ca r6
  split at hs
  case h_2=>cases hs
  rename_i hgg
  split at hs
  case h_2=>cases hs
  rename_i sm r8
  simp only [Option.some.injEq]at hs
  subst hs
  refine ex_guard fun h1=>ex_guard fun h2=>ex_guard fun h3=>?_
  obtain rfl:=eqCode_eq h1
  have hl:t.length=44:=Nat.eq_of_beq_eq_true h2
  obtain ⟨⟨G,hH⟩,hv,hq,hd,ho2,b1,b2,b3,b4,b5,b6,b7,b8,hm,hk0,rfl⟩:=dec_iff.1 h3
  clear r0 r1 r3 r6 r8 h1 h2 h3 hgg
  obtain ⟨q,hq3⟩:∃q,q=qOf o3:=⟨_,rfl⟩
  rw [← hq3]at hH
  unfold hdH at hH
  simp only [List.cons_append,List.nil_append,List.cons.injEq,true_and]at hH
  obtain ⟨rfl,rfl⟩:=hH
  clear hq3
  subst hm
  obtain ⟨k,rfl⟩:=Int.eq_ofNat_of_zero_le hk0
  have hgd0:=hv.g0.1
  have hgd1:=hv.g1.1
  show ∃j,∀o,(loopEnd 44 (.exit 0) [] ⟨hdH (.cells c0 true) (.cells c true) o2 (obG 117 q) (tkV off0 n off n2 d n3 z3 age shear) (quV lo hi tick now) (fvG 117) now (hXl c0 off0 c off age shear lo hi tick now 117 (qOf (obG 117 q)) (n2-k) k xl xh yl yh sm) (hXh c0 off0 c off age shear lo hi tick now 117 (qOf (obG 117 q)) (n2-k) k xl xh yl yh sm) (hYl c0 off0 c off age shear lo hi tick now 117 (qOf (obG 117 q)) (n2-k) k xl xh yl yh sm) (hYh c0 off0 c off age shear lo hi tick now 117 (qOf (obG 117 q)) (n2-k) k xl xh yl yh sm) (hSm c0 off0 c off age shear lo hi tick now 117 (qOf (obG 117 q)) (n2-k) k xl xh yl yh sm)++G,17,16::12::7::wr⟩ j).out=some o →
    Fact Try.prog (.code none (.loop (theLoop Try.prog 110 0)) ⟨t,[],⟨hdH (.cells c0 true) (.cells c true) o2 (obG 117 q) (tkV off0 n off n2 d n3 z3 age shear) (quV lo hi tick now) (fvG 117) now xl xh yl yh sm++G,17,wr⟩⟩) o
  change Known Try.prog ((((shHear 117).ans J).below mesH (mesH (.code none (.loop (theLoop Try.prog 110 0)) ⟨t,[],⟨hdH (.cells c0 true) (.cells c true) o2 (obG 117 q) (tkV off0 n off n2 d n3 z3 age shear) (quV lo hi tick now) (fvG 117) now xl xh yl yh sm++G,17,wr⟩⟩))).or (fun _=>none)) at hkn
  obtain ⟨wr1,hev,hwr⟩:=stepH117 J (M:=mesH (.code none (.loop (theLoop Try.prog 110 0)) ⟨t,[],⟨hdH (.cells c0 true) (.cells c true) o2 (obG 117 q) (tkV off0 n off n2 d n3 z3 age shear) (quV lo hi tick now) (fvG 117) now xl xh yl yh sm++G,17,wr⟩⟩)) (t.map Go.Gi.lo) hv hq (c0:=c0) (c:=c) (o2:=o2) (q:=q) (sm:=sm) (k:=k) hd ho2 b1 b2 b3 b4 b5 b6 b7 b8 (by
    intro hkn2
    simp only [mesH,e9,e10,Nat.blt_eq,Int.toNat_natCast]
    show n2-(k+1)<n2-k
    omega)
  refine out_wr (wr1:=wr1) (hkn.loopLeaf (G:=G) noNG mixed (n:=60) (N0:=44) (N:=44) (live:=[(0,.func (.yield 16) ⟨[]⟩ ⟨[]⟩),(1,pp 13),(2,pp 14),(8,.slice (some ⟨1,off,none⟩) n2 5),(9,.int .i64 (n2:Int)),(10,.int .i64 (k:Int))])
      (H0:=hdH (.cells c0 true) (.cells c true) o2 (obG 117 q) (tkV off0 n off n2 d n3 z3 age shear) (quV lo hi tick now) (fvG 117) now xl xh yl yh sm) (pick:=pick106) (e:=.exit 0) (vs:=[]) (base:=17) (wr:=[]) (wr1:=wr1) (c:=theLoop Try.prog 110 0) (t:=t) hev hl (by
        intro kv hm
        simp only [List.mem_cons,List.not_mem_nil,or_false]at hm
        rcases hm with rfl | rfl | rfl | rfl | rfl | rfl
        · exact ⟨e0,rfl,rfl⟩
        · exact ⟨e1,rfl,rfl⟩
        · exact ⟨e2,rfl,rfl⟩
        · exact ⟨e8,rfl,rfl⟩
        · exact ⟨e9,rfl,rfl⟩
        · exact ⟨e10,rfl,rfl⟩) (Nat.le_refl 17) (hsc117 c0 c o2 off0 n off n2 d n3 z3 age shear lo hi tick now q xl xh yl yh sm hgd0 hgd1 ho2 hd) (kept117 hgd0 hgd1 ho2 hd) rfl rfl) ?_ (fun b hb=>?_)
  · intro b hb
    have:=hwr b hb
    simp only [List.mem_cons,List.not_mem_nil,or_false]at this
    rcases this with rfl | rfl | rfl<;>simp
  · simp [hb]
theorem hsc128 (c0 c:Array Value)(o2:Ob)(off0 n off n2:Nat)(d:Option Addr)(n3 z3:Nat)(age shear lo hi tick now q xl xh yl yh:Int)(sm:Bool)(h0:c0.toList.all g0=true)(h1:c.toList.all g0=true)(h2:grOb o2)(hd:sc1 3 (.slice d n3 z3)=true) :
    (hdH (.cells c0 true) (.cells c true) o2 (obG 128 q) (tkV off0 n off n2 d n3 z3 age shear) (quV lo hi tick now) (fvG 128) now xl xh yl yh sm).all (obSc 17)=true:=by
  have q0:=obSc_g0 (n:=17) (r:=true) h0
  have q1:=obSc_g0 (n:=17) (r:=true) h1
  have q2:=grOb_sc (n:=17) h2
  unfold hdH
  rw [List.all_cons,q0,List.all_cons,q1,List.all_cons,q2]
  cases d with
  | none =>
    obtain ⟨rfl,rfl⟩:n3=0∧z3=0:=by simpa [sc1,sc0,g0] using hd
    rfl
  | some y =>
    have hy:y.block<17:=by
      simp only [sc1,sc0,decide_eq_true_eq]at hd
      omega
    simp [tkV,quV,tmH,uV,obSc,obG,fvG,sc1,scA,scT,sc0,g0,gA,hy]
theorem kept128 {c0 c:Array Value}{o2:Ob}{off0 n off n2:Nat}{d:Option Addr}{n3 z3:Nat} {age shear lo hi tick now q xl xh yl yh xl' xh' yl' yh':Int} {sm sm':Bool}(h0:c0.toList.all g0=true) (h1:c.toList.all g0=true) (h2:grOb o2) (hd:sc1 3 (.slice d n3 z3)=true) :
    ObsKept 17 (hdH (.cells c0 true) (.cells c true) o2 (obG 128 q) (tkV off0 n off n2 d n3 z3 age shear) (quV lo hi tick now) (fvG 128) now xl xh yl yh sm) (hdH (.cells c0 true) (.cells c true) o2 (obG 128 q) (tkV off0 n off n2 d n3 z3 age shear) (quV lo hi tick now) (fvG 128) now xl' xh' yl' yh' sm'):=by
  have hs:=hsc128 c0 c o2 off0 n off n2 d n3 z3 age shear lo hi tick now q xl' xh' yl' yh' sm' h0 h1 h2 hd
  unfold hdH at hs ⊢
  simp only [List.all_cons,Bool.and_eq_true]at hs
  obtain ⟨s0,s1,s2,s3,s4,s5,s6,s7,s8,s9,s10,s11,s12,s13,s14,s15,s16,_⟩:=hs
  exact .cons (kept_self s0) (.cons (kept_self s1) (.cons (kept_self s2) (.cons (kept_self s3) (.cons (kept_self s4) (.cons (kept_self s5) (.cons (kept_self s6) (.cons rfl (.cons (kept_self s8) (.cons (kept_self s9) (.cons (kept_self s10)
    (.cons (kept_self s11) (.cons rfl (.cons (kept_self s13) (.cons (kept_self s14) (.cons (kept_self s15) (.cons (kept_self s16) .nil))))))))))))))))
theorem stepH128 (J:Task→List Value) {c0 c:Array Value}{o2:Ob}{off0 n off n2:Nat}{d:Option Addr}{n3 z3:Nat}{age shear lo hi tick now q xl xh yl yh:Int}{sm:Bool}{k:Nat}{M:Nat}(y:List Value)
    (hv:Vld c0 off0 n c off n2 age shear) (hq:Qst lo hi tick now) (hd:sc1 3 (.slice d n3 z3)=true) (ho2:grOb o2)
    (b1:-100000000≤xl) (b2:xl≤100000000) (b3:-100000000≤xh) (b4:xh≤100000000) (b5:-100000000≤yl) (b6:yl≤100000000) (b7:-100000000≤yh) (b8:yh≤100000000) (hM:k<n2→(Nat.sub n2 (k+1)).blt M=true) :
    ∃wr1,evS Try.prog ((((shHear 128).ans J).below mesH M).or (fun _=>none)) 60 (.code none (.loop (theLoop Try.prog 110 0)) ⟨sets (junkF 44 y) [(0,.func (.yield 16) ⟨[]⟩ ⟨[]⟩),(1,pp 13),(2,pp 14),(8,.slice (some ⟨1,off,none⟩) n2 5),(9,.int .i64 (n2:Int)),(10,.int .i64 (k:Int))],[],⟨hdH (.cells c0 true) (.cells c true) o2 (obG 128 q) (tkV off0 n off n2 d n3 z3 age shear) (quV lo hi tick now) (fvG 128) now xl xh yl yh sm,17,[]⟩⟩) (sumK 17 44 pick106) =
      some (.ex (.exit 0) ⟨[],[],⟨hdH (.cells c0 true) (.cells c true) o2 (obG 128 q) (tkV off0 n off n2 d n3 z3 age shear) (quV lo hi tick now) (fvG 128) now (hXl c0 off0 c off age shear lo hi tick now 128 (qOf (obG 128 q)) (n2-k) k xl xh yl yh sm) (hXh c0 off0 c off age shear lo hi tick now 128 (qOf (obG 128 q)) (n2-k) k xl xh yl yh sm) (hYl c0 off0 c off age shear lo hi tick now 128 (qOf (obG 128 q)) (n2-k) k xl xh yl yh sm) (hYh c0 off0 c off age shear lo hi tick now 128 (qOf (obG 128 q)) (n2-k) k xl xh yl yh sm) (hSm c0 off0 c off age shear lo hi tick now 128 (qOf (obG 128 q)) (n2-k) k xl xh yl yh sm),44,wr1⟩⟩)∧∀b∈wr1,b∈[16,12,7]:=by
  rw [treeH128]
  by_cases hin:(k:Int)<n2
  · obtain ⟨m,hm⟩:∃m,n2-k=m+1:=⟨n2-k-1,by omega⟩
    have hkn2:k<n2:=by omega
    have hm':n2-(k+1)=m:=by omega
    have hfew:=hv.few2
    have hw:IntKind.i64.wrap ((k:Int)+1)=((k+1:Nat):Int):=by rw [wrap64_id (by omega) (by omega)];rfl
    have hme:=hM hkn2
    obtain ⟨s0,s1⟩:=hv.src k hkn2
    have hsn:(getInt c (off+k*5)).toNat<n:=by omega
    have rd5:rdOk c [.int .i64,.int .i64,.int .i64,.int .i64,.int .i64] (off+k*5)=true:=hv.g1.2 k hkn2
    have rd7:rdOk c0 [.str,.int .i64,.int .i64,.int .i64,.int .i64,.int .i64,.int .i64] (off0+(getInt c (off+k*5)).toNat*7)=true:=hv.g0.2 _ hsn
    have is2:isInt .i64 c0 (off0+(getInt c (off+k*5)).toNat*7+2)=true:=by
      have:=rd7
      simp only [rdOk,rdLeaf,Bool.and_eq_true]at this
      exact this.2.2.1
    have tk:=hv.tick k hkn2
    have lt:=hv.late _ hsn
    have w1:IntKind.i64.wrap (getInt c (off+k*5+1)+getInt c0 (off0+(getInt c (off+k*5)).toNat*7+1+1+1))=getInt c (off+k*5+1)+getInt c0 (off0+(getInt c (off+k*5)).toNat*7+1+1+1):=by
      have:getInt c0 (off0+(getInt c (off+k*5)).toNat*7+3)=getInt c0 (off0+(getInt c (off+k*5)).toNat*7+1+1+1):=rfl
      exact wrap64_id (by omega) (by omega)
    have w2:IntKind.i64.wrap (now-getInt c (off+k*5+1))=now-getInt c (off+k*5+1):=by
      have:=hq.now
      exact wrap64_id (by omega) (by omega)
    obtain ⟨dbw,d0,d1⟩:=dbW_eq hv hq hkn2
    have hx:-20000≤getInt c (off+k*5+1+1+1)∧getInt c (off+k*5+1+1+1)≤20000:=hv.x k hkn2
    have hy:-20000≤getInt c (off+k*5+1+1+1+1)∧getInt c (off+k*5+1+1+1+1)≤20000:=hv.y k hkn2
    have x1:IntKind.i64.wrap (getInt c (off+k*5+1+1+1)-dbI c0 off0 c off age shear lo hi tick k)=getInt c (off+k*5+3)-dbI c0 off0 c off age shear lo hi tick k:=wrap64_id (by omega) (by omega)
    have x2:IntKind.i64.wrap (getInt c (off+k*5+1+1+1)+dbI c0 off0 c off age shear lo hi tick k)=getInt c (off+k*5+3)+dbI c0 off0 c off age shear lo hi tick k:=wrap64_id (by omega) (by omega)
    have y1:IntKind.i64.wrap (getInt c (off+k*5+1+1+1+1)-dbI c0 off0 c off age shear lo hi tick k)=getInt c (off+k*5+4)-dbI c0 off0 c off age shear lo hi tick k:=wrap64_id (by omega) (by omega)
    have y2:IntKind.i64.wrap (getInt c (off+k*5+1+1+1+1)+dbI c0 off0 c off age shear lo hi tick k)=getInt c (off+k*5+4)+dbI c0 off0 c off age shear lo hi tick k:=wrap64_id (by omega) (by omega)
    have hok:∀X xl xh yl yh sm,-100000000≤xl→xl≤100000000→-100000000≤xh→xh≤100000000→-100000000≤yl→yl≤100000000→-100000000≤yh→yh≤100000000 →
        okHear 128 (hdH (.cells c0 true) (.cells c true) o2 (obG 128 q) (tkV off0 n off n2 d n3 z3 age shear) (quV lo hi tick now) (fvG 128) now xl xh yl yh sm++X) c0 c o2 off0 n off n2 d n3 z3 age shear lo hi tick now (qOf (obG 128 q)) xl xh yl yh sm (n2:Int) ((k+1:Nat):Int) 17=true :=
      fun X xl xh yl yh sm c1 c2 c3 c4 c5 c6 c7 c8=>dec_iff.2 ⟨⟨X,rfl⟩,hv,hq,hd,ho2,c1,c2,c3,c4,c5,c6,c7,c8,rfl,by omega,rfl⟩
    have hok1:=fun X=>hok X xl xh yl yh sm b1 b2 b3 b4 b5 b6 b7 b8
    have hx3:-20000≤getInt c (off+k*5+3)∧getInt c (off+k*5+3)≤20000:=hx
    have hy4:-20000≤getInt c (off+k*5+4)∧getInt c (off+k*5+4)≤20000:=hy
    have hok2:=fun X=>hok X (max xl (getInt c (off+k*5+3)-dbI c0 off0 c off age shear lo hi tick k)) (min xh (getInt c (off+k*5+3)+dbI c0 off0 c off age shear lo hi tick k)) (max yl (getInt c (off+k*5+4)-dbI c0 off0 c off age shear lo hi tick k)) (min yh (getInt c (off+k*5+4)+dbI c0 off0 c off age shear lo hi tick k)) true (by omega) (by omega) (by omega) (by omega) (by omega) (by omega) (by omega) (by omega)
    rw [hm]
    have hknP:knP c0 off0 c off now k=(decide (getInt c (off+k*5+1)+getInt c0 (off0+(getInt c (off+k*5)).toNat*7+1+1+1)≤now)&&decide (now-getInt c (off+k*5+1)≤getInt c0 (off0+(getInt c (off+k*5)).toNat*7+1+1+1+1))):=rfl
    simp only [Int.ofNat_eq_natCast,Int.toNat_natCast,hin,hw,s0,s1,rd5,rd7,is2,w1,w2,dbw,x1,x2,y1,y2,hme,hm',hok1,hok2,eqCode_self,decide_true,Bool.and_self,cond_true,Int.natCast_nonneg]
    cases dA:decide (getInt c (off+k*5+1)+getInt c0 (off0+(getInt c (off+k*5)).toNat*7+1+1+1)≤now) with
    | true =>
     cases dB:decide (now-getInt c (off+k*5+1)≤getInt c0 (off0+(getInt c (off+k*5)).toNat*7+1+1+1+1)) with
     | true =>
        have hkn1:knP c0 off0 c off now k=true:=by rw [hknP,dA,dB];rfl
        cases dC:decide (getInt c (off+k*5)=q) with
        | true =>
          have hC:=of_decide_eq_true dC
          have e:¬(knP c0 off0 c off now k=true∧chB 128 (qOf (obG 128 q)) (getInt c (off+k*5))=true):=by
            rintro ⟨_,h⟩;simp only [chB,Bool.not_eq_true',decide_eq_false_iff_not,decide_eq_true_eq]at h;exact h hC
          rw [hXl_miss e,hXh_miss e,hYl_miss e,hYh_miss e,hSm_miss e]
          refine ⟨[16,12,7,16,16],?_,by simp⟩
          simp only [dA,dB,dC,cond_true,cond_false,Bool.not_true,Bool.not_false]
        | false =>
          have hC:=of_decide_eq_false dC
          have hch:chB 128 (qOf (obG 128 q)) (getInt c (off+k*5))=true:=(by simp only [chB,Bool.not_eq_true',decide_eq_false_iff_not];exact hC)
          rw [hXl_hit hkn1 hch,hXh_hit hkn1 hch,hYl_hit hkn1 hch,hYh_hit hkn1 hch,hSm_hit hkn1 hch]
          refine ⟨[16,12,7,16,12,7,7,7,7,16],?_,by simp⟩
          simp only [dA,dB,dC,cond_true,cond_false,Bool.not_true,Bool.not_false]
     | false =>
        have e:¬(knP c0 off0 c off now k=true∧chB 128 (qOf (obG 128 q)) (getInt c (off+k*5))=true):=by
          rw [hknP,dA,dB];simp
        rw [hXl_miss e,hXh_miss e,hYl_miss e,hYh_miss e,hSm_miss e]
        refine ⟨[16,12,7],?_,by simp⟩
        simp only [dA,dB,cond_true,cond_false,Bool.not_true,Bool.not_false]
    | false =>
        have e:¬(knP c0 off0 c off now k=true∧chB 128 (qOf (obG 128 q)) (getInt c (off+k*5))=true):=by
          rw [hknP,dA];simp
        rw [hXl_miss e,hXh_miss e,hYl_miss e,hYh_miss e,hSm_miss e]
        refine ⟨[16,12,7],?_,by simp⟩
        simp only [dA,cond_false,Bool.not_true,Bool.not_false]
  · have h0:n2-k=0:=by omega
    rw [h0,hXl_end,hXh_end,hYl_end,hYh_end,hSm_end]
    refine ⟨[],?_,by simp⟩
    simp only [hin,decide_false,cond_false]
theorem knownH128:∃J,Known Try.prog ((shHear 128).ans J):=by
  refine Known.junk (Known.nothing _) mesH (shHear 128) ?_
  intro J t f hs hkn
  unfold shHear at hs
  split at hs
  case h_2=>cases hs
  rename_i code t c0 c o2 o3 H base wr
  split at hs
  case h_2=>cases hs
  rename_i off n2 m k er e0 e1 e2 e8 e9 e10
  split at hs
  case h_2=>cases hs
  rename_i off0 n u d n3 z3 age shear r0
  split at hs
  case h_2=>cases hs
  rename_i lo hi tick now r1
  split at hs
  case h_2=>cases hs
  rename_i xl xh yl yh r3
  split at hs
  case h_2=>cases hs
  rename_i g' fi ca r6
  split at hs
  case h_2=>cases hs
  rename_i hgg
  split at hs
  case h_2=>cases hs
  rename_i sm r8
  simp only [Option.some.injEq]at hs
  subst hs
  refine ex_guard fun h1=>ex_guard fun h2=>ex_guard fun h3=>?_
  obtain rfl:=eqCode_eq h1
  have hl:t.length=44:=Nat.eq_of_beq_eq_true h2
  obtain ⟨⟨G,hH⟩,hv,hq,hd,ho2,b1,b2,b3,b4,b5,b6,b7,b8,hm,hk0,rfl⟩:=dec_iff.1 h3
  clear r0 r1 r3 r6 r8 h1 h2 h3 hgg
  obtain ⟨q,hq3⟩:∃q,q=qOf o3:=⟨_,rfl⟩
  rw [← hq3]at hH
  unfold hdH at hH
  simp only [List.cons_append,List.nil_append,List.cons.injEq,true_and]at hH
  obtain ⟨rfl,rfl⟩:=hH
  clear hq3
  subst hm
  obtain ⟨k,rfl⟩:=Int.eq_ofNat_of_zero_le hk0
  have hgd0:=hv.g0.1
  have hgd1:=hv.g1.1
  show ∃j,∀o,(loopEnd 44 (.exit 0) [] ⟨hdH (.cells c0 true) (.cells c true) o2 (obG 128 q) (tkV off0 n off n2 d n3 z3 age shear) (quV lo hi tick now) (fvG 128) now (hXl c0 off0 c off age shear lo hi tick now 128 (qOf (obG 128 q)) (n2-k) k xl xh yl yh sm) (hXh c0 off0 c off age shear lo hi tick now 128 (qOf (obG 128 q)) (n2-k) k xl xh yl yh sm) (hYl c0 off0 c off age shear lo hi tick now 128 (qOf (obG 128 q)) (n2-k) k xl xh yl yh sm) (hYh c0 off0 c off age shear lo hi tick now 128 (qOf (obG 128 q)) (n2-k) k xl xh yl yh sm) (hSm c0 off0 c off age shear lo hi tick now 128 (qOf (obG 128 q)) (n2-k) k xl xh yl yh sm)++G,17,16::12::7::wr⟩ j).out=some o →
    Fact Try.prog (.code none (.loop (theLoop Try.prog 110 0)) ⟨t,[],⟨hdH (.cells c0 true) (.cells c true) o2 (obG 128 q) (tkV off0 n off n2 d n3 z3 age shear) (quV lo hi tick now) (fvG 128) now xl xh yl yh sm++G,17,wr⟩⟩) o
  change Known Try.prog ((((shHear 128).ans J).below mesH (mesH (.code none (.loop (theLoop Try.prog 110 0)) ⟨t,[],⟨hdH (.cells c0 true) (.cells c true) o2 (obG 128 q) (tkV off0 n off n2 d n3 z3 age shear) (quV lo hi tick now) (fvG 128) now xl xh yl yh sm++G,17,wr⟩⟩))).or (fun _=>none)) at hkn
  obtain ⟨wr1,hev,hwr⟩:=stepH128 J (M:=mesH (.code none (.loop (theLoop Try.prog 110 0)) ⟨t,[],⟨hdH (.cells c0 true) (.cells c true) o2 (obG 128 q) (tkV off0 n off n2 d n3 z3 age shear) (quV lo hi tick now) (fvG 128) now xl xh yl yh sm++G,17,wr⟩⟩)) (t.map Go.Gi.lo) hv hq (c0:=c0) (c:=c) (o2:=o2) (q:=q) (sm:=sm) (k:=k) hd ho2 b1 b2 b3 b4 b5 b6 b7 b8 (by
    intro hkn2
    simp only [mesH,e9,e10,Nat.blt_eq,Int.toNat_natCast]
    show n2-(k+1)<n2-k
    omega)
  refine out_wr (wr1:=wr1) (hkn.loopLeaf (G:=G) noNG mixed (n:=60) (N0:=44) (N:=44) (live:=[(0,.func (.yield 16) ⟨[]⟩ ⟨[]⟩),(1,pp 13),(2,pp 14),(8,.slice (some ⟨1,off,none⟩) n2 5),(9,.int .i64 (n2:Int)),(10,.int .i64 (k:Int))])
      (H0:=hdH (.cells c0 true) (.cells c true) o2 (obG 128 q) (tkV off0 n off n2 d n3 z3 age shear) (quV lo hi tick now) (fvG 128) now xl xh yl yh sm) (pick:=pick106) (e:=.exit 0) (vs:=[]) (base:=17) (wr:=[]) (wr1:=wr1) (c:=theLoop Try.prog 110 0) (t:=t) hev hl (by
        intro kv hm
        simp only [List.mem_cons,List.not_mem_nil,or_false]at hm
        rcases hm with rfl | rfl | rfl | rfl | rfl | rfl
        · exact ⟨e0,rfl,rfl⟩
        · exact ⟨e1,rfl,rfl⟩
        · exact ⟨e2,rfl,rfl⟩
        · exact ⟨e8,rfl,rfl⟩
        · exact ⟨e9,rfl,rfl⟩
        · exact ⟨e10,rfl,rfl⟩) (Nat.le_refl 17) (hsc128 c0 c o2 off0 n off n2 d n3 z3 age shear lo hi tick now q xl xh yl yh sm hgd0 hgd1 ho2 hd) (kept128 hgd0 hgd1 ho2 hd) rfl rfl) ?_ (fun b hb=>?_)
  · intro b hb
    have:=hwr b hb
    simp only [List.mem_cons,List.not_mem_nil,or_false]at this
    rcases this with rfl | rfl | rfl<;>simp
  · simp [hb]
end
end Go.Proofs.Ytfnogghclaijlaa.Old
