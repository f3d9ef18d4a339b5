/- Regions that draw their order; code; calls. -/
import Derived.Test.YtgooihjcaoajnaaGreatEr
import Derived.Recover
import Derived.LoopN
import Derived.Deep.RegionHeld3
set_option linter.unusedVariables false
set_option linter.unusedSimpArgs false
namespace Go.Proofs.YtgooihjcaoajnaaGreat.Ev
open Go Go.RowKit

mutual
def beqV : AV → AV → Bool
  | .i k n, .i j m => decide (k = j) && n == m
  | .b x, .b y => x == y
  | .s x, .s y => x == y
  | .p g o, .p h q => Nat.beq g h && Nat.beq o q
  | .np, .np => true
  | .sl g o n c x, .sl h q m d y => Nat.beq g h && Nat.beq o q && Nat.beq n m && Nat.beq c d && x == y
  | .ns, .ns => true
  | .m g, .m h => Nat.beq g h
  | .nm, .nm => true
  | .f f a c, .f g b d => Nat.beq f g && beqL a b && beqL c d
  | .nf, .nf => true
  | .ie t v, .ie u w => Nat.beq t u && beqV v w
  | .ni, .ni => true
  | .ag l, .ag m => beqL l m
  | .tu l, .tu m => beqL l m
  | .y k n, .y j m => decide (k = j) && Nat.beq n m
  | _, _ => false
def beqL : List AV → List AV → Bool
  | [], [] => true
  | a :: l, b :: m => beqV a b && beqL l m
  | _, _ => false
end
mutual
theorem beqV_ok : ∀ {a b : AV}, beqV a b = true → a = b
  | .i k n, b, h => by cases b <;> simp [beqV] at h; simp [h]
  | .b x, b, h => by cases b <;> simp [beqV] at h; simp [h]
  | .s x, b, h => by cases b <;> simp [beqV] at h; simp [h]
  | .p g o, b, h => by cases b <;> simp [beqV] at h; simp [h.1, h.2]
  | .np, b, h => by cases b <;> simp [beqV] at h; rfl
  | .sl .., b, h => by cases b <;> simp [beqV] at h; simp [h.1.1.1.1, h.1.1.1.2, h.1.1.2, h.1.2, h.2]
  | .ns, b, h => by cases b <;> simp [beqV] at h; rfl
  | .m g, b, h => by cases b <;> simp [beqV] at h; simp [h]
  | .nm, b, h => by cases b <;> simp [beqV] at h; rfl
  | .f f a c, b, h => by cases b <;> simp [beqV] at h; simp [h.1.1, beqL_ok h.1.2, beqL_ok h.2]
  | .nf, b, h => by cases b <;> simp [beqV] at h; rfl
  | .ie t v, b, h => by cases b <;> simp [beqV] at h; simp [h.1, beqV_ok h.2]
  | .ni, b, h => by cases b <;> simp [beqV] at h; rfl
  | .ag l, b, h => by cases b <;> simp [beqV] at h; simp [beqL_ok h]
  | .tu l, b, h => by cases b <;> simp [beqV] at h; simp [beqL_ok h]
  | .y k j, b, h => by cases b <;> simp [beqV] at h; simp [h.1, h.2]
theorem beqL_ok : ∀ {a b : List AV}, beqL a b = true → a = b
  | [], b, h => by cases b <;> simp [beqL] at h; rfl
  | a :: l, b, h => by cases b <;> simp [beqL] at h; simp [beqV_ok h.1, beqL_ok h.2]
end

inductive PStep where
  | take (i : Nat)
  | step (i : Nat)
  /-- two new variables, in whichever order -/
  | pair (i j : Nat)
  /-- an operation that waits for all that were taken: from it on they are done -/
  | rel (i : Nat)
  /-- operation i makes a block, at whatever time from now till 'land'; 'fstep': the one operation that may come beside it -/
  | open (i : Nat)
  | fstep (i : Nat)
  | land
structure Held where
  t : TypeId
  g : Nat
  o : Nat
  v : AV
def hasN (k : Nat) : List Nat → Bool
  | [] => false
  | x :: r => match Nat.beq x k with
    | true => true
    | false => hasN k r
def addN : List Nat → List Nat → List Nat
  | [], s => s
  | x :: r, s => match hasN x s with
    | true => addN r s
    | false => addN r (x :: s)
/-- the next operation of the plan that waits for all that were taken ahead of it -/
def relOf : List PStep → Nat → Bool
  | [], _ => false
  | .rel j :: _, k => Nat.beq j k
  | .take _ :: r, k => relOf r k
  | .step _ :: r, k => relOf r k
  | .pair _ _ :: r, k => relOf r k
  | .open _ :: r, k => relOf r k
  | .fstep _ :: r, k => relOf r k
  | .land :: r, k => relOf r k
def bindsOn : List Edge → List Nat
  | [] => []
  | e :: r => match Region.binds .any e with
    | true => e.on :: bindsOn r
    | false => bindsOn r
def afterOn (ops : Array Oper) (j : Nat) : List Nat := match ops[j]? with
  | some o => bindsOn o.after.toList
  | none => []
/-- what lies below number n among that for which a set waits, straight or by others -/
def reachL (ops : Array Oper) : Nat → List Nat → List Nat
  | 0, s => s
  | k + 1, s => match hasN k s with
    | true => reachL ops k (addN (afterOn ops k) s)
    | false => reachL ops k s
def waits (ops : Array Oper) (j i : Nat) : Bool := hasN i (reachL ops ops.size (afterOn ops j))
/-- what is done has all done for which it waits -/
def clB (ops : Array Oper) (l : Array Bool) : Bool := allB (fun k => match l.getD k false with
  | true => allB (fun y => l.getD y false) (afterOn ops k)
  | false => true) (List.range ops.size)
def isLoad (ops : Array Oper) (i : Nat) : Bool := match ops[i]? with
  | some o => match o.op with
    | .load _ _ => true
    | _ => false
  | none => false
def apartAt (ops : Array Oper) (i j : Nat) : Bool := match ops[i]? with
  | some x => (match ops[j]? with
    | some y => x.apart ops y
    | none => false)
  | none => false
mutual
def planOk (ops : Array Oper) : List PStep → Array Bool → List Nat → Bool
  | [], l, _ => (Region.ready .any ops l).isEmpty
  | .take i :: r, l, tk => match Region.free .any ops l i with
    | true => match (Region.ready .any ops l).contains i && (!(relOf r i) && (match isLoad ops i with | true => clB ops l | false => true)) with
      | true => planOk ops r (l.setIfInBounds i true) (match isLoad ops i with | true => i :: tk | false => tk)
      | false => false
    | false => false
  | .step i :: r, l, tk => match decide (Region.ready .any ops l = [i]) with
    | true => match relOf r i with
      | false => planOk ops r (l.setIfInBounds i true) tk
      | true => false
    | false => false
  | .rel i :: r, l, tk => match decide (Region.ready .any ops l = [i]) with
    | true => match allB (waits ops i) tk with
      | true => planOk ops r (l.setIfInBounds i true) []
      | false => false
    | false => false
  | .pair i j :: r, l, tk => match decide (Region.ready .any ops l = [i, j] ∧ i ≠ j) with
    | true => match decide (Region.ready .any ops (l.setIfInBounds i true) = [j]) with
      | true => match decide (Region.ready .any ops (l.setIfInBounds j true) = [i]) with
        | true => match relOf r i with
          | false => match relOf r j with
            | false => planOk ops r ((l.setIfInBounds i true).setIfInBounds j true) tk
            | true => false
          | true => false
        | false => false
      | false => false
    | false => false
  | .open i :: r, l, tk => planF ops i r l tk
  | .fstep _ :: _, _, _ => false
  | .land :: _, _, _ => false
/-- the plan while operation L may come at whatever time -/
def planF (ops : Array Oper) (L : Nat) : List PStep → Array Bool → List Nat → Bool
  | .take i :: r, l, tk => match Region.free .any ops l i && (Region.ready .any ops l).contains i && (Region.free .any ops (l.setIfInBounds L true) i && (Region.ready .any ops (l.setIfInBounds L true)).contains i) && (!(relOf r i) && (apartAt ops L i && (decide (i ≠ L) && (match isLoad ops i with | true => clB ops l && clB ops (l.setIfInBounds L true) | false => true)))) with
    | true => planF ops L r (l.setIfInBounds i true) (match isLoad ops i with | true => i :: tk | false => tk)
    | false => false
  | .fstep i :: r, l, tk => match decide (i ≠ L ∧ (Region.ready .any ops l = [i, L] ∨ Region.ready .any ops l = [L, i]) ∧ Region.ready .any ops (l.setIfInBounds L true) = [i]) && (!(relOf r i) && (!(relOf r L) && apartAt ops L i)) with
    | true => planF ops L r (l.setIfInBounds i true) tk
    | false => false
  | .land :: r, l, tk => match decide (Region.ready .any ops l = [L]) && !(relOf r L) with
    | true => planOk ops r (l.setIfInBounds L true) tk
    | false => false
  | _, _, _ => false
end
def PStep.size : PStep → Nat
  | .pair _ _ => 2
  | .open _ => 0
  | _ => 1
def planLen : List PStep → Nat
  | [] => 0
  | s :: r => s.size + planLen r
def planned (ops : Array Oper) (plan : List PStep) : Bool := match Region.noSelect ops with
  | true => match Nat.beq (planLen plan) ops.size with
    | true => planOk ops plan (Array.replicate ops.size false) []
    | false => false
  | false => false
def heldOk (P : Program) (rd : Rd) (H : List Held) : Bool := allB (fun h => match loadA P rd h.t h.g h.o with | some v => beqV v h.v | none => false) H

inductive AMode where
  | returning
  | panicking (v : AV) (recovered : Bool)
def settleA : AMode → AMode
  | .panicking _ true => .returning
  | m => m

section
variable (P : Program) (se : List TypeId)
/-- the cells of a new variable -/
def freshA (ev : Operand → Option AV) (o : Op) : Option AO := match o with
  | .alloc t => match zeroT P t with | some z => some (.cells t z.cells false) | none => none
  | .box t x => match ev x with | some v => some (.cells t v.cells false) | none => none
  | _ => none
mutual
def drawA (call : FuncId → List AV → AS → Option (AEnd × AS)) (ops : Array Oper) : List PStep → List Held → Fr → AS → Option (Fr × AS)
  | [], _, F, A => some (F, A)
  | .take i :: r, H, F, A => match ops[i]? with
    | none => none
    | some o => match wantedA F ops o with
      | false => match putF F o.dst undefA with
        | some F => drawA call ops r H F A
        | none => none
      | true => match o.op with
        | .load t x => match F.ev x with
          | some (.p g q) => match loadA P A.heap.get t g q with
            | some v => match putF F o.dst v with
              | some F => drawA call ops r (⟨t, g, q, v⟩ :: H) F A
              | none => none
            | none => none
          | _ => none
        | op => match opA P se F.ev (fun _ => none) A.nxt op with
          | some (.val v .none) => match putF F o.dst v with
            | some F => drawA call ops r H F A
            | none => none
          | some (.enter f args) => match pCall P se A.nxt f args with
            | some v => match putF F o.dst v with
              | some F => drawA call ops r H F A
              | none => none
            | none => none
          | _ => none
  | .step i :: r, H, F, A => match ops[i]? with
    | none => none
    | some o => match wantedA F ops o with
      | false => match putF F o.dst undefA with
        | some F => drawA call ops r H F A
        | none => none
      | true => match opA P se F.ev A.heap.get A.nxt o.op with
        | some (.val v e) => match applyE A e with
          | some A => match putF F o.dst v with
            | some F => match heldOk P A.heap.get H with
              | true => drawA call ops r H F A
              | false => none
            | none => none
          | none => none
        | some (.enter f args) => match call f args A with
          | some (.ret v, A) => match putF F o.dst v with
            | some F => match heldOk P A.heap.get H with
              | true => drawA call ops r H F A
              | false => none
            | none => none
          | _ => none
        | _ => none

  | .rel i :: r, _, F, A => match ops[i]? with
    | none => none
    | some o => match wantedA F ops o with
      | false => match putF F o.dst undefA with
        | some F => drawA call ops r [] F A
        | none => none
      | true => match opA P se F.ev A.heap.get A.nxt o.op with
        | some (.val v e) => match applyE A e with
          | some A => match putF F o.dst v with
            | some F => drawA call ops r [] F A
            | none => none
          | none => none
        | some (.enter f args) => match call f args A with
          | some (.ret v, A) => match putF F o.dst v with
            | some F => drawA call ops r [] F A
            | none => none
          | _ => none
        | _ => none
  | .pair i j :: r, H, F, A => match ops[i]? with
    | none => none
    | some oi => match ops[j]? with
      | none => none
      | some oj => match oi.guard with
        | some _ => none
        | none => match oj.guard with
          | some _ => none
          | none => match freshA P F.ev oi.op with
            | none => none
            | some ai => match freshA P F.ev oj.op with
              | none => none
              | some aj => match oi.apart ops oj with
                | false => none
                | true => match applyE A (.new ai) with
                  | none => none
                  | some A1 => match applyE A1 (.new aj) with
                    | none => none
                    | some A2 => match putF F oi.dst (.p A.nxt 0) with
                      | none => none
                      | some F1 => match putF F1 oj.dst (.p A1.nxt 0) with
                        | none => none
                        | some F2 => match heldOk P A2.heap.get H with
                          | true => match heldOk P A.heap.get H with
                            | true => drawA call ops r H F2 A2
                            | false => none
                          | false => none
  | .open i :: r, H, F, A => match ops[i]? with
    | none => none
    | some o => match o.guard with
      | some _ => none
      | none => match opA P se F.ev (fun _ => none) A.nxt o.op with
        | some (.val _ (.new (.cells _ _ false))) => match heldOk P A.heap.get H with
          | true => drawF call ops o r H F A
          | false => none
        | _ => none
  | .fstep _ :: _, _, _, _ => none
  | .land :: _, _, _, _ => none
def drawF (call : FuncId → List AV → AS → Option (AEnd × AS)) (ops : Array Oper) (oL : Oper) : List PStep → List Held → Fr → AS → Option (Fr × AS)
  | .take i :: r, H, F, A => match ops[i]? with
    | none => none
    | some o => match wantedA F ops o with
      | false => match putF F o.dst undefA with
        | some F => drawF call ops oL r H F A
        | none => none
      | true => match o.op with
        | .load t x => match F.ev x with
          | some (.p g q) => match loadA P A.heap.get t g q with
            | some v => match putF F o.dst v with
              | some F => drawF call ops oL r (⟨t, g, q, v⟩ :: H) F A
              | none => none
            | none => none
          | _ => none
        | op => match opA P se F.ev (fun _ => none) A.nxt op with
          | some (.val v .none) => match putF F o.dst v with
            | some F => drawF call ops oL r H F A
            | none => none
          | some (.enter f args) => match pCall P se A.nxt f args with
            | some v => match putF F o.dst v with
              | some F => drawF call ops oL r H F A
              | none => none
            | none => none
          | _ => none
  | .fstep i :: r, H, F, A => match ops[i]? with
    | none => none
    | some o => match wantedA F ops o with
      | false => match putF F o.dst undefA with
        | some F => drawF call ops oL r H F A
        | none => none
      | true => match opA P se F.ev A.heap.get A.nxt o.op with
        | some (.val v e) => match applyE A e with
          | some A => match putF F o.dst v with
            | some F => match heldOk P A.heap.get H with
              | true => drawF call ops oL r H F A
              | false => none
            | none => none
          | none => none
        | some (.enter f args) => match call f args A with
          | some (.ret v, A) => match putF F o.dst v with
            | some F => match heldOk P A.heap.get H with
              | true => drawF call ops oL r H F A
              | false => none
            | none => none
          | _ => none
        | _ => none

  | .land :: r, H, F, A => match opA P se F.ev (fun _ => none) A.nxt oL.op with
    | some (.val v (.new (.cells t cs false))) => match applyE A (.new (.cells t cs false)) with
      | some A => match putF F oL.dst v with
        | some F => match heldOk P A.heap.get H with
          | true => drawA call ops r H F A
          | false => none
        | none => none
      | none => none
    | _ => none
  | _, _, _, _ => none
end

/-- operations in a deferred call: recover tells of the frame that is left -/
def opsS (call : FuncId → List AV → AS → Option (AEnd × AS)) (all : Array Oper) : List Oper → Fr → AMode → AS → Option (AE × Fr × AMode × AS)
  | [], F, m, A => some (.normal, F, m, A)
  | o :: rest, F, m, A => match wantedA F all o with
    | true => match opA P se F.ev A.heap.get A.nxt o.op with
      | some (.val v e) => match applyE A e with
        | some A => match putF F o.dst v with
          | some F => opsS call all rest F m A
          | none => none
        | none => none
      | some (.enter f args) => match call f args A with
        | some (.ret v, A) => match putF F o.dst v with
          | some F => opsS call all rest F m A
          | none => none
        | _ => none
      | some .recover => match m with
        | .panicking v false => match putF F o.dst v with
          | some F => opsS call all rest F (.panicking v true) A
          | none => none
        | _ => match putF F o.dst .ni with
          | some F => opsS call all rest F m A
          | none => none
      | _ => none
    | false => match putF F o.dst undefA with
      | some F => opsS call all rest F m A
      | none => none

variable (G : FuncId → Nat → List PStep)
mutual
def codeA : Nat → FuncId → Code → Fr → AS → Option (AE × Fr × AS)
  | 0, _, _, _, _ => none
  | n + 1, f, c, F, A => match c with
    | .skip => some (.normal, F, A)
    | .label _ => some (.normal, F, A)
    | .region id ops draw => match draw with
      | false => opsA P se (callA n) ops ops.toList F A
      | true => match planned ops (G f id) with
        | true => match drawA P se (callA n) ops (G f id) [] F A with
          | some (F, A) => some (.normal, F, A)
          | none => none
        | false => none
    | .seq a b => match codeA n f a F A with
      | some (.normal, F, A) => codeA n f b F A
      | some (e, F, A) => some (e, F, A)
      | none => none
    | .cond c a b => match F.ev c with
      | some (.b true) => codeA n f a F A
      | some (.b false) => codeA n f b F A
      | _ => none
    | .block id c => match codeA n f c F A with
      | some (.exit j, F, A) => match Nat.beq j id with
        | true => some (.normal, F, A)
        | false => some (.exit j, F, A)
      | some (e, F, A) => some (e, F, A)
      | none => none
    | .loop c => match codeA n f c F A with
      | some (.normal, F, A) => codeA n f (.loop c) F A
      | some (e, F, A) => some (e, F, A)
      | none => none
    | .exit id => some (.exit id, F, A)
    | .ret => some (.ret, F, A)
    | _ => none
def callA : Nat → FuncId → List AV → AS → Option (AEnd × AS)
  | 0, _, _, _ => none
  | n + 1, f, args, A => match P.funcs[f]? with
    | some fn => match fn.body with
      | some c => match Nat.ble args.length fn.ntmps with
        | true => match Nat.ble fn.ntmps 1000000 with
          | true => match codeA n f c ⟨fn.ntmps, argT args 0 .e, []⟩ A with
            | some (e, F, A) => match F.ds with
              | [] => match e with
                | .panic v => some (.panic v, A)
                | .exit _ => none
                | _ => match finishA P fn F A with
                  | some v => some (.ret v, A)
                  | none => none
              | d :: ds => match e with
                | .panic v => leaveA n fn F (d :: ds) (.panicking v false) A
                | .exit _ => none
                | _ => leaveA n fn F (d :: ds) .returning A
            | none => none
          | false => none
        | false => none
      | none => none
    | none => none
def leaveA : Nat → Func → Fr → List ADef → AMode → AS → Option (AEnd × AS)
  | 0, _, _, _, _, _ => none
  | n + 1, fn, F, ds, m, A => match ds with
    | [] => match m with
      | .returning => match finishA P fn F A with
        | some v => some (.ret v, A)
        | none => none
      | .panicking v false => some (.panic v, A)
      | .panicking _ true => none
    | d :: ds => match callS n d.fn (d.args ++ d.cap) m A with
      | some (m, A) => leaveA n fn F ds (settleA m) A
      | none => none
def codeS : Nat → FuncId → Code → Fr → AMode → AS → Option (AE × Fr × AMode × AS)
  | 0, _, _, _, _, _ => none
  | n + 1, f, c, F, m, A => match c with
    | .region id ops false => opsS P se (callA n) ops ops.toList F m A
    | .seq a b => match codeS n f a F m A with
      | some (.normal, F, m, A) => codeS n f b F m A
      | some (e, F, m, A) => some (e, F, m, A)
      | none => none
    | .cond c a b => match F.ev c with
      | some (.b true) => codeS n f a F m A
      | some (.b false) => codeS n f b F m A
      | _ => none
    | c => match codeA n f c F A with
      | some (e, F, A) => some (e, F, m, A)
      | none => none
def callS : Nat → FuncId → List AV → AMode → AS → Option (AMode × AS)
  | 0, _, _, _, _ => none
  | n + 1, f, args, m, A => match P.funcs[f]? with
    | some fn => match fn.body with
      | some c => match Nat.ble args.length fn.ntmps with
        | true => match Nat.ble fn.ntmps 1000000 with
          | true => match codeS n f c ⟨fn.ntmps, argT args 0 .e, []⟩ m A with
            | some (e, F, m, A) => match F.ds with
              | [] => match e with
                | .panic _ => none
                | .exit _ => none
                | _ => match finishA P fn F A with
                  | some _ => some (m, A)
                  | none => none
              | _ => none
            | none => none
          | false => none
        | false => none
      | none => none
    | none => none
end
end
def okB : Option (AEnd × AS) → Bool
  | some (.ret (.b true), _) => true
  | _ => false

/-! ### Regions that draw -/
def SH (P : Program) (H : List (TypeId × Addr × Value)) (w : World) : Prop := ∀ x ∈ H, (loadVar x.1 x.2.1).run P w = .ok x.2.2 w
def conc (E : En) (h : Held) : TypeId × Addr × Value := (h.t, ⟨E.ρ h.g, h.o, none⟩, den E h.v)
def Held.bd (n : Nat) (h : Held) : Prop := h.g < n ∧ h.v.bd n
theorem conc_ext {n : Nat} {E E' : En} (hx : Ext n E E') {H : List Held} (hb : ∀ h ∈ H, Held.bd n h) : H.map (conc E') = H.map (conc E) :=
  List.map_congr_left fun h hh => by unfold conc; rw [hx.ρ h.g (hb h hh).1, den_ext hx (hb h hh).2]
/-- as wpAnyH; behind an operation of D nothing more is asked of the worlds -/
def wpAnyD (P : Program) (ops : Array Oper) (Q : Exit → Act → World → Prop) (S : World → Prop) (D : Nat → Bool) : Nat → Array Bool → Act → World → Prop
  | 0, listed, a, w => Region.ready .any ops listed = [] ∧ Q .normal a w
  | fuel + 1, listed, a, w =>
    (Region.ready .any ops listed = [] → Q .normal a w) ∧
    ∀ i ∈ Region.ready .any ops listed, wpOp P ops Q i (fun a' w' => if D i = true then wpAny P .any ops Q fuel (listed.setIfInBounds i true) a' w' else S w' ∧ wpAnyD P ops Q S D fuel (listed.setIfInBounds i true) a' w') a w
section
variable {P : Program} {ops : Array Oper} {Q : Exit → Act → World → Prop} {S S' : World → Prop} {D : Nat → Bool}
theorem wpAny_of_D : ∀ (fuel : Nat) (l : Array Bool) (a : Act) (w : World), wpAnyD P ops Q S D fuel l a w → wpAny P .any ops Q fuel l a w
  | 0, _, _, _, h => h
  | fuel + 1, l, a, w, h => ⟨h.1, fun i hi => wpOp_mono (fun a' w' h' => by
      by_cases hd : D i = true
      · rw [if_pos hd] at h'; exact h'
      · rw [if_neg hd] at h'; exact wpAny_of_D fuel _ a' w' h'.2) (h.2 i hi)⟩
theorem wpAnyD_mono (hS : ∀ w, S' w → S w) : ∀ (fuel : Nat) (l : Array Bool) (a : Act) (w : World), wpAnyD P ops Q S' D fuel l a w → wpAnyD P ops Q S D fuel l a w
  | 0, _, _, _, h => h
  | fuel + 1, l, a, w, h => ⟨h.1, fun i hi => wpOp_mono (fun a' w' h' => by
      by_cases hd : D i = true
      · rw [if_pos hd] at h' ⊢; exact h'
      · rw [if_neg hd] at h' ⊢; exact ⟨hS w' h'.1, wpAnyD_mono hS fuel _ a' w' h'.2⟩) (h.2 i hi)⟩
theorem hasN_iff {k : Nat} : ∀ {s : List Nat}, hasN k s = true → k ∈ s
  | [], h => by simp [hasN] at h
  | x :: r, h => by
    simp only [hasN] at h
    split at h
    · rename_i e
      have := Nat.eq_of_beq_eq_true e
      subst this
      exact List.mem_cons_self
    · exact List.mem_cons_of_mem _ (hasN_iff h)
theorem addN_all {p : Nat → Prop} : ∀ {x s : List Nat}, (∀ y ∈ x, p y) → (∀ y ∈ s, p y) → ∀ y ∈ addN x s, p y
  | [], s, _, h, y, hy => h y hy
  | z :: r, s, hx, h, y, hy => by
    simp only [addN] at hy
    split at hy
    · exact addN_all (fun y hy => hx y (List.mem_cons_of_mem _ hy)) h y hy
    · exact addN_all (fun y hy => hx y (List.mem_cons_of_mem _ hy)) (fun y hy => by
        rcases List.mem_cons.1 hy with rfl | hy
        · exact hx y List.mem_cons_self
        · exact h y hy) y hy
theorem bindsOn_mem {y : Nat} : ∀ {r : List Edge}, y ∈ bindsOn r → ∃ e ∈ r, Region.binds .any e = true ∧ e.on = y
  | [], h => by simp [bindsOn] at h
  | e :: r, h => by
    simp only [bindsOn] at h
    split at h
    · rename_i hb
      rcases List.mem_cons.1 h with rfl | h
      · exact ⟨e, List.mem_cons_self, hb, rfl⟩
      · obtain ⟨e', he', x⟩ := bindsOn_mem h
        exact ⟨e', List.mem_cons_of_mem _ he', x⟩
    · obtain ⟨e', he', x⟩ := bindsOn_mem h
      exact ⟨e', List.mem_cons_of_mem _ he', x⟩
/-- what is done has all done for which it waits -/
def Cl (ops : Array Oper) (l : Array Bool) : Prop := ∀ k, l.getD k false = true → ∀ y ∈ afterOn ops k, l.getD y false = true
theorem clB_iff {l : Array Bool} (h : clB ops l = true) : Cl ops l := by
  intro k hk y hy
  have hlt : k < ops.size := by
    rcases Nat.lt_or_ge k ops.size with h' | h'
    · exact h'
    · unfold afterOn at hy
      rw [Array.getElem?_eq_none h'] at hy
      simp at hy
  have h1 := allB_iff h k (List.mem_range.2 hlt)
  simp only [hk] at h1
  exact allB_iff h1 y hy
theorem ready_after {j : Nat} {l : Array Bool} (hj : j ∈ Region.ready .any ops l) : ∀ y ∈ afterOn ops j, l.getD y false = true := by
  obtain ⟨-, o, ho, hall⟩ := mem_ready.1 hj
  intro y hy
  unfold afterOn at hy
  rw [ho] at hy
  obtain ⟨e, he, hb, rfl⟩ := bindsOn_mem hy
  exact hall e (by simpa using he) hb
theorem getD_set_true {l : Array Bool} {j y : Nat} (h : l.getD y false = true) : (l.setIfInBounds j true).getD y false = true := by
  simp only [Array.getD_eq_getD_getElem?] at h ⊢
  rw [Array.getElem?_setIfInBounds]
  split
  · split
    · rfl
    · rename_i e h'
      subst e
      rw [Array.getElem?_eq_none (Nat.le_of_not_lt h')] at h
      exact h
  · exact h
theorem Cl.set {j : Nat} {l : Array Bool} (hc : Cl ops l) (hj : j ∈ Region.ready .any ops l) : Cl ops (l.setIfInBounds j true) := by
  intro k hk y hy
  by_cases e : j = k
  · subst e
    exact getD_set_true (ready_after hj y hy)
  · rw [getD_set_ne false e] at hk
    exact getD_set_true (hc k hk y hy)
theorem reachL_all {l : Array Bool} (hc : Cl ops l) : ∀ (n : Nat) (s : List Nat), (∀ y ∈ s, l.getD y false = true) → ∀ y ∈ reachL ops n s, l.getD y false = true
  | 0, s, h, y, hy => h y hy
  | k + 1, s, h, y, hy => by
    simp only [reachL] at hy
    split at hy
    · rename_i hk
      exact reachL_all hc k _ (addN_all (fun z hz => hc k (h k (hasN_iff hk)) z hz) h) y hy
    · exact reachL_all hc k s h y hy
theorem waits_listed {i j : Nat} {l : Array Bool} (hc : Cl ops l) (hw : waits ops j i = true) (hj : j ∈ Region.ready .any ops l) : l.getD i false = true :=
  reachL_all hc _ _ (ready_after hj) i (hasN_iff hw)
theorem wpAnyD_first {i : Nat} {oi : Oper} {v : Value} (hi : ops[i]? = some oi) (hsel : ∀ (j : Nat) (o : Oper) cs b, ops[j]? = some o → o.op ≠ .select cs b)
    (hQ : ∀ c a w, Q (.panic c) (a.put oi.dst v) w → Q (.panic c) a w) (hD : ∀ j, D j = true → waits ops j i = true) (hDi : D i = false) :
    ∀ (fuel : Nat) (listed : Array Bool) (a : Act) (w : World), Cl ops listed →
      (∀ j oj, ops[j]? = some oj → j ≠ i → listed.getD j true = false → (∀ e ∈ oj.after, Region.binds .any e = true → e.on ≠ i) → oi.apart ops oj = true) →
      i ∈ Region.ready .any ops listed → YieldsIf P ops S oi v a → S w →
      wpAnyD P ops Q S D fuel (listed.setIfInBounds i true) (a.put oi.dst v) w → wpAnyD P ops Q S D (fuel + 1) listed a w := by
  intro fuel
  induction fuel with
  | zero =>
    intro listed a w _ _ hr hy hS H
    refine ⟨fun h => (by rw [h] at hr; cases hr), fun j hj => ?_⟩
    by_cases hji : j = i
    · subst hji
      have n0 : ¬ (D j = true) := by rw [hDi]; simp
      simp only [if_neg n0]
      exact hy.wpOp hi hS ⟨hS, H⟩
    · have := ready_mono hj hji
      rw [H.1] at this
      cases this
  | succ fuel ih =>
    intro listed a w hc hfree hr hy hS H
    refine ⟨fun h => (by rw [h] at hr; cases hr), fun j hj => ?_⟩
    by_cases hji : j = i
    · subst hji
      have n0 : ¬ (D j = true) := by rw [hDi]; simp
      simp only [if_neg n0]
      exact hy.wpOp hi hS ⟨hS, H⟩
    · have h1 := H.2 j (ready_mono hj hji)
      have hun : listed.getD i true = false := (mem_ready.1 hr).1
      have hDj : D j = false := by
        cases hd : D j with
        | false => rfl
        | true =>
          have h2 := waits_listed hc (hD j hd) hj
          rcases Nat.lt_or_ge i listed.size with h' | h'
          · simp [h'] at hun h2; rw [hun] at h2; cases h2
          · simp [Array.getElem?_eq_none h'] at h2
      have n0 : ¬ (D j = true) := by rw [hDj]; simp
      simp only [if_neg n0] at h1 ⊢
      obtain ⟨hjun, oj, hoj, hall⟩ := mem_ready.1 hj
      have hnot : ∀ e ∈ oj.after, Region.binds .any e = true → e.on ≠ i := fun e he hb heq => by
        have h1 := hall e he hb
        rw [heq] at h1
        rcases Nat.lt_or_ge i listed.size with h' | h'
        · simp [h'] at hun h1; rw [hun] at h1; cases h1
        · simp [Array.getElem?_eq_none h'] at h1
      have h2 := wpOp_putIf hoj (hfree j oj hoj hji hjun hnot) (fun cs b => hsel i oi cs b hi) (fun cs b => hsel j oj cs b hoj) hQ hy h1
      have hfree' : ∀ k ok, ops[k]? = some ok → k ≠ i → (listed.setIfInBounds j true).getD k true = false →
          (∀ e ∈ ok.after, Region.binds .any e = true → e.on ≠ i) → oi.apart ops ok = true := fun k ok hk hki hun hno => by
        refine hfree k ok hk hki ?_ hno
        by_cases hjk : j = k
        · subst hjk; exact hjun
        · rw [getD_set_ne true hjk] at hun; exact hun
      refine wpOp_mono (fun a' w' h3 => ⟨h3.2.1, ih (listed.setIfInBounds j true) a' w' (hc.set hj) hfree' (ready_mono hr (Ne.symm hji)) h3.1 h3.2.1 ?_⟩) h2
      rw [Array.setIfInBounds_comm _ _ hji]
      exact h3.2.2
theorem wpAnyD_take {i : Nat} {oi : Oper} {v : Value} {fuel : Nat} {listed : Array Bool} {a : Act} {w : World} (hi : ops[i]? = some oi) (hc : Cl ops listed)
    (hs : Region.noSelect ops = true) (hf : Region.free .any ops listed i = true) (hr : (Region.ready .any ops listed).contains i = true)
    (hQ : ∀ c a w, Q (.panic c) (a.put oi.dst v) w → Q (.panic c) a w) (hD : ∀ j, D j = true → waits ops j i = true) (hDi : D i = false) (hy : YieldsIf P ops S oi v a) (hS : S w)
    (h : wpAnyD P ops Q S D fuel (listed.setIfInBounds i true) (a.put oi.dst v) w) : wpAnyD P ops Q S D (fuel + 1) listed a w :=
  wpAnyD_first hi (Region.noSelect_spec hs) hQ hD hDi fuel listed a w hc (Region.free_spec hi hf) (by simpa using hr) hy hS h
theorem wpAnyD_firstP {i : Nat} {oi : Oper} {v : Value} (hi : ops[i]? = some oi) (hsel : ∀ (j : Nat) (o : Oper) cs b, ops[j]? = some o → o.op ≠ .select cs b)
    (hQ : ∀ c a w, Q (.panic c) (a.put oi.dst v) w → Q (.panic c) a w) (hDi : D i = false) :
    ∀ (fuel : Nat) (listed : Array Bool) (a : Act) (w : World),
      (∀ j oj, ops[j]? = some oj → j ≠ i → listed.getD j true = false → (∀ e ∈ oj.after, Region.binds .any e = true → e.on ≠ i) → oi.apart ops oj = true) →
      i ∈ Region.ready .any ops listed → Yields P ops oi v a → S w →
      wpAnyD P ops Q S D fuel (listed.setIfInBounds i true) (a.put oi.dst v) w → wpAnyD P ops Q S D (fuel + 1) listed a w := by
  intro fuel
  induction fuel with
  | zero =>
    intro listed a w _ hr hy hS H
    refine ⟨fun h => (by rw [h] at hr; cases hr), fun j hj => ?_⟩
    by_cases hji : j = i
    · subst hji
      have n0 : ¬ (D j = true) := by rw [hDi]; simp
      simp only [if_neg n0]
      exact hy.wpOp hi ⟨hS, H⟩
    · have := ready_mono hj hji
      rw [H.1] at this
      cases this
  | succ fuel ih =>
    intro listed a w hfree hr hy hS H
    refine ⟨fun h => (by rw [h] at hr; cases hr), fun j hj => ?_⟩
    by_cases hji : j = i
    · subst hji
      have n0 : ¬ (D j = true) := by rw [hDi]; simp
      simp only [if_neg n0]
      exact hy.wpOp hi ⟨hS, H⟩
    · have h1 := H.2 j (ready_mono hj hji)
      have hun : listed.getD i true = false := (mem_ready.1 hr).1
      obtain ⟨hjun, oj, hoj, hall⟩ := mem_ready.1 hj
      have hnot : ∀ e ∈ oj.after, Region.binds .any e = true → e.on ≠ i := fun e he hb heq => by
        have h1 := hall e he hb
        rw [heq] at h1
        rcases Nat.lt_or_ge i listed.size with h' | h'
        · simp [h'] at hun h1; rw [hun] at h1; cases h1
        · simp [Array.getElem?_eq_none h'] at h1
      have h2 := wpOp_put hoj (hfree j oj hoj hji hjun hnot) (fun cs b => hsel i oi cs b hi) (fun cs b => hsel j oj cs b hoj) hQ hy h1
      have hfree' : ∀ k ok, ops[k]? = some ok → k ≠ i → (listed.setIfInBounds j true).getD k true = false →
          (∀ e ∈ ok.after, Region.binds .any e = true → e.on ≠ i) → oi.apart ops ok = true := fun k ok hk hki hun hno => by
        refine hfree k ok hk hki ?_ hno
        by_cases hjk : j = k
        · subst hjk; exact hjun
        · rw [getD_set_ne true hjk] at hun; exact hun
      refine wpOp_mono (fun a' w' h3 => ?_) h2
      by_cases hD : D j = true
      · rw [if_pos hD] at h3 ⊢
        refine wpAny_first hi hsel hQ fuel (listed.setIfInBounds j true) a' w' hfree' (ready_mono hr (Ne.symm hji)) h3.1 ?_
        rw [Array.setIfInBounds_comm _ _ hji]
        exact h3.2
      · rw [if_neg hD] at h3 ⊢
        refine ⟨h3.2.1, ih (listed.setIfInBounds j true) a' w' hfree' (ready_mono hr (Ne.symm hji)) h3.1 h3.2.1 ?_⟩
        rw [Array.setIfInBounds_comm _ _ hji]
        exact h3.2.2
theorem wpAnyD_takeP {i : Nat} {oi : Oper} {v : Value} {fuel : Nat} {listed : Array Bool} {a : Act} {w : World} (hi : ops[i]? = some oi)
    (hs : Region.noSelect ops = true) (hf : Region.free .any ops listed i = true) (hr : (Region.ready .any ops listed).contains i = true)
    (hQ : ∀ c a w, Q (.panic c) (a.put oi.dst v) w → Q (.panic c) a w) (hDi : D i = false) (hy : Yields P ops oi v a) (hS : S w)
    (h : wpAnyD P ops Q S D fuel (listed.setIfInBounds i true) (a.put oi.dst v) w) : wpAnyD P ops Q S D (fuel + 1) listed a w :=
  wpAnyD_firstP hi (Region.noSelect_spec hs) hQ hDi fuel listed a w (Region.free_spec hi hf) (by simpa using hr) hy hS h
theorem wpAnyD_firstC {i : Nat} {oi : Oper} {v : Value} (hi : ops[i]? = some oi) (hsel : ∀ (j : Nat) (o : Oper) cs b, ops[j]? = some o → o.op ≠ .select cs b)
    (hQ : ∀ c a w, Q (.panic c) (a.put oi.dst v) w → Q (.panic c) a w) (hDi : D i = false) :
    ∀ (fuel : Nat) (listed : Array Bool) (a : Act) (w : World),
      (∀ j oj, ops[j]? = some oj → j ≠ i → listed.getD j true = false → (∀ e ∈ oj.after, Region.binds .any e = true → e.on ≠ i) → oi.apart ops oj = true) →
      i ∈ Region.ready .any ops listed → YieldsC P ops oi v a → S w →
      wpAnyD P ops Q S D fuel (listed.setIfInBounds i true) (a.put oi.dst v) w → wpAnyD P ops Q S D (fuel + 1) listed a w := by
  intro fuel
  induction fuel with
  | zero =>
    intro listed a w _ hr hy hS H
    refine ⟨fun h => (by rw [h] at hr; cases hr), fun j hj => ?_⟩
    by_cases hji : j = i
    · subst hji
      have n0 : ¬ (D j = true) := by rw [hDi]; simp
      simp only [if_neg n0]
      exact hy.wpOp hi ⟨hS, H⟩
    · have := ready_mono hj hji
      rw [H.1] at this
      cases this
  | succ fuel ih =>
    intro listed a w hfree hr hy hS H
    refine ⟨fun h => (by rw [h] at hr; cases hr), fun j hj => ?_⟩
    by_cases hji : j = i
    · subst hji
      have n0 : ¬ (D j = true) := by rw [hDi]; simp
      simp only [if_neg n0]
      exact hy.wpOp hi ⟨hS, H⟩
    · have h1 := H.2 j (ready_mono hj hji)
      have hun : listed.getD i true = false := (mem_ready.1 hr).1
      obtain ⟨hjun, oj, hoj, hall⟩ := mem_ready.1 hj
      have hnot : ∀ e ∈ oj.after, Region.binds .any e = true → e.on ≠ i := fun e he hb heq => by
        have h1 := hall e he hb
        rw [heq] at h1
        rcases Nat.lt_or_ge i listed.size with h' | h'
        · simp [h'] at hun h1; rw [hun] at h1; cases h1
        · simp [Array.getElem?_eq_none h'] at h1
      have h2 := wpOp_putC hoj (hfree j oj hoj hji hjun hnot) (fun cs b => hsel i oi cs b hi) (fun cs b => hsel j oj cs b hoj) hQ hy h1
      have hfree' : ∀ k ok, ops[k]? = some ok → k ≠ i → (listed.setIfInBounds j true).getD k true = false →
          (∀ e ∈ ok.after, Region.binds .any e = true → e.on ≠ i) → oi.apart ops ok = true := fun k ok hk hki hun hno => by
        refine hfree k ok hk hki ?_ hno
        by_cases hjk : j = k
        · subst hjk; exact hjun
        · rw [getD_set_ne true hjk] at hun; exact hun
      refine wpOp_mono (fun a' w' h3 => ?_) h2
      by_cases hD : D j = true
      · rw [if_pos hD] at h3 ⊢
        refine wpAny_firstC hi hsel hQ fuel (listed.setIfInBounds j true) a' w' hfree' (ready_mono hr (Ne.symm hji)) h3.1 ?_
        rw [Array.setIfInBounds_comm _ _ hji]
        exact h3.2
      · rw [if_neg hD] at h3 ⊢
        refine ⟨h3.2.1, ih (listed.setIfInBounds j true) a' w' hfree' (ready_mono hr (Ne.symm hji)) h3.1 h3.2.1 ?_⟩
        rw [Array.setIfInBounds_comm _ _ hji]
        exact h3.2.2
theorem wpAnyD_takeC {i : Nat} {oi : Oper} {v : Value} {fuel : Nat} {listed : Array Bool} {a : Act} {w : World} (hi : ops[i]? = some oi)
    (hs : Region.noSelect ops = true) (hf : Region.free .any ops listed i = true) (hr : (Region.ready .any ops listed).contains i = true)
    (hQ : ∀ c a w, Q (.panic c) (a.put oi.dst v) w → Q (.panic c) a w) (hDi : D i = false) (hy : YieldsC P ops oi v a) (hS : S w)
    (h : wpAnyD P ops Q S D fuel (listed.setIfInBounds i true) (a.put oi.dst v) w) : wpAnyD P ops Q S D (fuel + 1) listed a w :=
  wpAnyD_firstC hi (Region.noSelect_spec hs) hQ hDi fuel listed a w (Region.free_spec hi hf) (by simpa using hr) hy hS h
theorem wpAnyD_all {rs : List Nat} {fuel : Nat} {listed : Array Bool} {a : Act} {w : World} (hr : Region.ready .any ops listed = rs) (hne : rs ≠ [])
    (h : ∀ i ∈ rs, wpOp P ops Q i (fun a' w' => if D i = true then wpAny P .any ops Q fuel (listed.setIfInBounds i true) a' w' else S w' ∧ wpAnyD P ops Q S D fuel (listed.setIfInBounds i true) a' w') a w) : wpAnyD P ops Q S D (fuel + 1) listed a w :=
  ⟨fun h0 => absurd (hr ▸ h0) hne, hr ▸ h⟩
theorem wpAnyD_done {listed : Array Bool} {a : Act} {w : World} (hr : Region.ready .any ops listed = []) (h : Q .normal a w) :
    ∀ fuel, wpAnyD P ops Q S D fuel listed a w
  | 0 => ⟨hr, h⟩
  | _ + 1 => ⟨fun _ => h, by rw [hr]; simp⟩
/-- what is taken is waited for by the next that releases it -/
theorem plan_waits2 : ∀ (plan : List PStep), (∀ (l : Array Bool) (tk : List Nat), planOk ops plan l tk = true → ∀ j, relOf plan j = true → ∀ i ∈ tk, waits ops j i = true) ∧
    (∀ (L : Nat) (l : Array Bool) (tk : List Nat), planF ops L plan l tk = true → ∀ j, relOf plan j = true → ∀ i ∈ tk, waits ops j i = true)
  | [] => ⟨fun l tk h j hj i hi => by simp [relOf] at hj, fun L l tk h => by simp [planF] at h⟩
  | s :: r => by
    have ih := plan_waits2 r
    cases s with
    | take k =>
      refine ⟨fun l tk h j hj i hi => ?_, fun L l tk h j hj i hi => ?_⟩
      · simp only [planOk] at h
        split at h
        · split at h
          · refine ih.1 _ _ h j hj i ?_
            split
            · exact List.mem_cons_of_mem _ hi
            · exact hi
          · cases h
        · cases h
      · simp only [planF] at h
        split at h
        · refine ih.2 _ _ _ h j hj i ?_
          split
          · exact List.mem_cons_of_mem _ hi
          · exact hi
        · cases h
    | step k =>
      refine ⟨fun l tk h j hj i hi => ?_, fun L l tk h => by simp [planF] at h⟩
      simp only [planOk] at h
      split at h
      · split at h
        · exact ih.1 _ _ h j hj i hi
        · cases h
      · cases h
    | rel k =>
      refine ⟨fun l tk h j hj i hi => ?_, fun L l tk h => by simp [planF] at h⟩
      simp only [planOk] at h
      split at h
      · split at h
        · rename_i ha
          have := Nat.eq_of_beq_eq_true hj
          subst this
          exact allB_iff ha i hi
        · cases h
      · cases h
    | pair k k' =>
      refine ⟨fun l tk h j hj i hi => ?_, fun L l tk h => by simp [planF] at h⟩
      simp only [planOk] at h
      split at h
      · split at h
        · split at h
          · split at h
            · split at h
              · exact ih.1 _ _ h j hj i hi
              · cases h
            · cases h
          · cases h
        · cases h
      · cases h
    | «open» k => exact ⟨fun l tk h j hj i hi => ih.2 k l tk (by simpa [planOk] using h) j hj i hi, fun L l tk h => by simp [planF] at h⟩
    | fstep k =>
      refine ⟨fun l tk h => by simp [planOk] at h, fun L l tk h j hj i hi => ?_⟩
      simp only [planF] at h
      split at h
      · exact ih.2 _ _ _ h j hj i hi
      · cases h
    | land =>
      refine ⟨fun l tk h => by simp [planOk] at h, fun L l tk h j hj i hi => ?_⟩
      simp only [planF] at h
      split at h
      · exact ih.1 _ _ h j hj i hi
      · cases h
theorem plan_waits (plan : List PStep) (l : Array Bool) (tk : List Nat) (h : planOk ops plan l tk = true) (j : Nat) (hj : relOf plan j = true) (i : Nat) (hi : i ∈ tk) : waits ops j i = true := (plan_waits2 plan).1 l tk h j hj i hi
end
section
variable {P : Program} {se : List TypeId}
theorem held_ok {E : En} {n : Nat} {w : World} {R : Rd} (hR : Rep P E R n w) {H : List Held} (h : heldOk P R H = true) : SH P (H.map (conc E)) w := by
  intro x hx
  obtain ⟨q, hq, rfl⟩ := List.mem_map.1 hx
  have := allB_iff h q hq
  split at this
  · rename_i v hv
    have e := beqV_ok this
    subst e
    exact (load_ok hR hv).1
  · cases this
/-- two new blocks, whichever came first -/
theorem rep_two {E : En} {R : Rd} {n b1 b2 : Nat} {w w' : World} {o1 o2 : AO} (h : Rep P E R n w) (hb1 : w.heap.size ≤ b1) (hb2 : w.heap.size ≤ b2) (hne : b1 ≠ b2) (hsz : w.heap.size ≤ w'.heap.size)
    (hold : ∀ k, k < w.heap.size → w'.heap[k]? = w.heap[k]?) (h1 : OB P ((E.new n b1 0).new (n + 1) b2 0) n w' o1) (h2 : OB P ((E.new n b1 0).new (n + 1) b2 0) (n + 1) w' o2) (bd1 : o1.bd n) (bd2 : o2.bd n)
    (hos : w'.os = w.os) (htape : w'.tape = w.tape) (hout : w'.output = w.output) :
    Stp E R n w ((E.new n b1 0).new (n + 1) b2 0) (effR (.new o2) (effR (.new o1) R n) (n + 1)) (n + 2) w' ∧ Rep P ((E.new n b1 0).new (n + 1) b2 0) (effR (.new o2) (effR (.new o1) R n) (n + 1)) (n + 2) w' := by
  have hx : Ext n E ((E.new n b1 0).new (n + 1) b2 0) := (E.ext n b1 0).trans ((E.new n b1 0).ext (n + 1) b2 0) (by omega)
  have e1 : ((E.new n b1 0).new (n + 1) b2 0).ρ n = b1 := by simp [En.new]
  have e2 : ((E.new n b1 0).new (n + 1) b2 0).ρ (n + 1) = b2 := by simp [En.new]
  have split3 : ∀ g q, effR (.new o2) (effR (.new o1) R n) (n + 1) g = some q → (g = n + 1 ∧ q = o2) ∨ (g = n ∧ q = o1) ∨ R g = some q := by
    intro g q hg
    simp only [effR] at hg
    split at hg
    · rename_i e; simp only [Option.some.injEq] at hg; exact .inl ⟨e, hg.symm⟩
    · split at hg
      · rename_i e; simp only [Option.some.injEq] at hg; exact .inr (.inl ⟨e, hg.symm⟩)
      · exact .inr (.inr hg)
  have old : ∀ g q, R g = some q → ((E.new n b1 0).new (n + 1) b2 0).ρ g = E.ρ g ∧ E.ρ g < w.heap.size := fun g q hg => ⟨hx.ρ g (h.bd g q hg).1, h.lt hg⟩
  refine ⟨⟨hx, by omega, hos, htape, hout, hsz, fun b hb _ => hold b hb, ?_⟩, ⟨?_, ?_, ?_⟩⟩
  · intro g q hg
    rcases split3 g q hg with ⟨rfl, -⟩ | ⟨rfl, -⟩ | hg
    · exact .inl (by rw [e2]; exact hb2)
    · exact .inl (by rw [e1]; exact hb1)
    · exact .inr ⟨g, q, hg, (old g q hg).1.symm⟩
  · intro g q hg
    rcases split3 g q hg with ⟨rfl, rfl⟩ | ⟨rfl, rfl⟩ | hg
    · exact h2
    · exact h1
    · refine ((h.obj g q hg).ext hx (h.bd g q hg).1 (h.bd g q hg).2).same ?_
      rw [(old g q hg).1]
      exact hold _ (old g q hg).2
  · intro g q hg
    rcases split3 g q hg with ⟨rfl, rfl⟩ | ⟨rfl, rfl⟩ | hg
    · exact ⟨by omega, AO.bd_mono (by omega) bd2⟩
    · exact ⟨by omega, AO.bd_mono (by omega) bd1⟩
    · exact ⟨by have := (h.bd g q hg).1; omega, AO.bd_mono (by omega) (h.bd g q hg).2⟩
  · intro g k q q' hg hk he
    rcases split3 g q hg with ⟨eg, -⟩ | ⟨eg, -⟩ | hg <;> rcases split3 k q' hk with ⟨ek, -⟩ | ⟨ek, -⟩ | hk
    · rw [eg, ek]
    · rw [eg, ek, e1, e2] at he; exact absurd he.symm hne
    · rw [eg, e2, (old k q' hk).1] at he; have := (old k q' hk).2; omega
    · rw [eg, ek, e1, e2] at he; exact absurd he hne
    · rw [eg, ek]
    · rw [eg, e1, (old k q' hk).1] at he; have := (old k q' hk).2; omega
    · rw [ek, e2, (old g q hg).1] at he; have := (old g q hg).2; omega
    · rw [ek, e1, (old g q hg).1] at he; have := (old g q hg).2; omega
    · rw [(old g q hg).1, (old k q' hk).1] at he
      exact h.inj g k q q' hg hk he
/-- a new variable: what the operation does, in whatever world -/
theorem fresh_run {E : En} {n : Nat} {ev : Operand → Option AV} {ρ : Operand → Value} {o : Oper} {ao : AO} (hE : EvOk E n ev ρ) (h : freshA P ev o.op = some ao) :
    ∃ t cs, ao = .cells t cs false ∧ (∀ v ∈ cs, AV.bd n v) ∧ ∀ w, (execOp ρ o).run P w = .ok (.value (.pointer (some ⟨w.heap.size, 0, none⟩))) (w.alloc (.cells (cs.map (den E)).toArray t)) := by
  cases ho : o.op <;> rw [ho] at h <;> simp only [freshA] at h <;> try (cases h; done)
  case alloc t =>
    split at h
    · rename_i z hz
      simp only [Option.some.injEq] at h; subst h
      refine ⟨t, z.cells, rfl, cells_bd (zero_bd hz n), fun w => ?_⟩
      simp only [execOp, ho]
      refine run_v_ok ?_
      simp only [Instr.alloc, Sem.run_bind, run_zero hz E, Result.andThen_ok, newVar, newRow, den_cells]
      simp
    · cases h
  case box t x =>
    split at h
    · rename_i v hx
      simp only [Option.some.injEq] at h; subst h
      refine ⟨t, v.cells, rfl, cells_bd (hE _ _ hx).2, fun w => ?_⟩
      simp only [execOp, ho, (hE _ _ hx).1]
      refine run_v_ok ?_
      simp only [Instr.box, Sem.run_bind, newVar, newRow, den_cells]
      simp
    · cases h
theorem NoPanic_put {Q : Exit → Act → World → Prop} (d : Option Tmp) (v : Value) : ∀ c a w, NoPanic Q (.panic c) (a.put d v) w → NoPanic Q (.panic c) a w := fun _ _ _ h => h
def AOk (P : Program) (se : List TypeId) (call : FuncId → List AV → AS → Option (AEnd × AS)) (ops : Array Oper) (plan : List PStep) : Prop :=
  ∀ (l : Array Bool) (tk : List Nat) (H : List Held) (F : Fr) (A : AS) (E : En) (a : Act) (w : World) (F' : Fr) (A' : AS) (Q : Exit → Act → World → Prop), planOk ops plan l tk = true →
      drawA P se call ops plan H F A = some (F', A') → RF E A.nxt F a → Rep P E A.heap.get A.nxt w → (∀ h ∈ H, Held.bd A.nxt h) → SH P (H.map (conc E)) w → QOk P E A w .normal F' A' Q →
      wpAnyD P ops (NoPanic Q) (SH P (H.map (conc E))) (relOf plan) (planLen plan) l a w
theorem A_nil (hnm : NmOk P) (hse : SeOk P se) {call : FuncId → List AV → AS → Option (AEnd × AS)} (hcall : CallOk P call) (ops : Array Oper) (hns : Region.noSelect ops = true) : AOk P se call ops ([]) := by
  intro l tk H F A E a w F' A' Q hp h hF hR hHb hS hQ
  simp only [drawA, Option.some.injEq, Prod.mk.injEq] at h
  obtain ⟨rfl, rfl⟩ := h
  simp only [planOk, List.isEmpty_iff] at hp
  exact wpAnyD_done hp (NoPanic.normal (hQ E a w (Stp.refl _ _ _ _) hF hR)) _
theorem A_take (hnm : NmOk P) (hse : SeOk P se) {call : FuncId → List AV → AS → Option (AEnd × AS)} (hcall : CallOk P call) (ops : Array Oper) (hns : Region.noSelect ops = true) (i : Nat) (r : List PStep) (ih : AOk P se call ops r) : AOk P se call ops (.take i :: r) := by
  intro l tk H F A E a w F' A' Q hp h hF hR hHb hS hQ
  simp only [planOk] at hp
  split at hp
  · rename_i hfree
    split at hp
    · rename_i hready
      simp only [Bool.and_eq_true, Bool.not_eq_true'] at hready
      obtain ⟨hready, hDi, hcl⟩ := hready
      simp only [drawA] at h
      split at h
      · cases h
      · rename_i o hi
        split at h
        · rename_i hw
          split at h
          · rename_i F1 hput
            show wpAnyD _ _ _ _ _ (1 + planLen r) _ _ _
            rw [Nat.add_comm 1]
            exact wpAnyD_takeP hi hns hfree hready (NoPanic_put _ _) hDi (.inr ⟨by rw [wanted_eq hF]; exact hw, rfl⟩) hS
              (ih _ _ H F1 A E _ w F' A' Q hp h (hF.put hput trivial) hR hHb hS hQ)
          · cases h
        · rename_i hw
          split at h
          · rename_i t x hop
            split at h
            · rename_i g q hx
              split at h
              · rename_i v hv
                split at h
                · rename_i F1 hput
                  have hl := load_ok hR hv
                  have hil : isLoad ops i = true := by simp [isLoad, hi, hop]
                  have hDw : ∀ j, relOf r j = true → waits ops j i = true := fun j hj => plan_waits r _ _ hp j hj i (by rw [hil]; simp)
                  have hS' : SH P ((Held.mk t g q v :: H).map (conc E)) w := by
                    intro y hy
                    simp only [List.map_cons, List.mem_cons] at hy
                    rcases hy with rfl | hy
                    · exact hl.1
                    · exact hS y hy
                  refine wpAnyD_mono (S' := SH P ((Held.mk t g q v :: H).map (conc E))) (fun w h y hy => h y (by simp only [List.map_cons, List.mem_cons]; exact .inr hy)) _ _ _ _ ?_
                  show wpAnyD _ _ _ _ _ (1 + planLen r) _ _ _
                  rw [Nat.add_comm 1]
                  refine wpAnyD_take (v := den E v) hi (by simp only [hil] at hcl; exact clB_iff hcl) hns hfree hready (NoPanic_put _ _) hDw hDi (.inl ⟨by rw [wanted_eq hF]; exact hw, fun w' hw' => ?_⟩) hS'
                    (ih _ _ (Held.mk t g q v :: H) F1 A E _ w F' A' Q hp h (hF.put hput hl.2) hR (fun y hy => by
                      rcases List.mem_cons.1 hy with rfl | hy
                      · have := (hF.ev _ _ hx).2; exact ⟨this, hl.2⟩
                      · exact hHb y hy) hS' hQ)
                  have h1 := hw' (conc E (Held.mk t g q v)) (by simp)
                  simp only [execOp, hop, (hF.ev _ _ hx).1, den]
                  refine run_v_ok ?_
                  simp only [Instr.loadAt, Instr.sureAddr, Sem.run_bind, Sem.run_pure, Result.andThen_ok]
                  exact h1
                · cases h
              · cases h
            · cases h
          · rename_i hnl
            split at h
            · rename_i v hop
              split at h
              · rename_i F1 hput
                have hE : EvOk E A.nxt F.ev a.eval := hF.ev
                have hany : ∀ w', (execOp a.eval o).run P w' = .ok (.value (den E v)) w' ∧ v.bd A.nxt := fun w' => by
                  have hR0 : Rep P E (fun _ => none) A.nxt w' := ⟨fun g o h => by (cases h), fun g o h => by (cases h), fun g h o o' h1 => by (cases h1)⟩
                  obtain ⟨E', w1, hres, hvb, hst, hrep, hnone, -⟩ := opA_ok hnm hse hR0 hE hop
                  exact ⟨hnone rfl, hvb⟩
                show wpAnyD _ _ _ _ _ (1 + planLen r) _ _ _
                rw [Nat.add_comm 1]
                exact wpAnyD_takeP hi hns hfree hready (NoPanic_put _ _) hDi (.inl ⟨by rw [wanted_eq hF]; exact hw, fun w' => (hany w').1⟩) hS
                  (ih _ _ H F1 A E _ w F' A' Q hp h (hF.put hput (hany w).2) hR hHb hS hQ)
              · cases h
            · rename_i f args hop
              split at h
              · rename_i v hpc
                split at h
                · rename_i F1 hput
                  have hab := (opA_ok hnm hse (rep_none E A.nxt w) hF.ev hop).2
                  have hc := pCall_ok hnm hse hpc (E := E) hab
                  show wpAnyD _ _ _ _ _ (1 + planLen r) _ _ _
                  rw [Nat.add_comm 1]
                  exact wpAnyD_takeC hi hns hfree hready (NoPanic_put _ _) hDi ⟨by rw [wanted_eq hF]; exact hw, f, _, fun w' => (opA_ok hnm hse (rep_none E A.nxt w') hF.ev hop).1, hc.1⟩ hS
                    (ih _ _ H F1 A E _ w F' A' Q hp h (hF.put hput hc.2) hR hHb hS hQ)
                · cases h
              · cases h
            · cases h
    · cases hp
  · cases hp
theorem A_step (hnm : NmOk P) (hse : SeOk P se) {call : FuncId → List AV → AS → Option (AEnd × AS)} (hcall : CallOk P call) (ops : Array Oper) (hns : Region.noSelect ops = true) (i : Nat) (r : List PStep) (ih : AOk P se call ops r) : AOk P se call ops (.step i :: r) := by
  intro l tk H F A E a w F' A' Q hp h hF hR hHb hS hQ
  simp only [planOk] at hp
  split at hp
  · rename_i hready
    have hready := of_decide_eq_true hready
    split at hp
    case h_2 => cases hp
    rename_i hrel
    show wpAnyD _ _ _ _ _ (1 + planLen r) _ _ _
    rw [Nat.add_comm 1]
    refine wpAnyD_all hready (by simp) ?_
    intro j hj
    simp only [List.mem_singleton] at hj
    subst hj
    simp only [drawA] at h
    split at h
    · cases h
    · rename_i o hi
      have hDj : ¬ (relOf (PStep.step j :: r) j = true) := by show ¬ (relOf r j = true); rw [hrel]; simp
      simp only [if_neg hDj]
      unfold wpOp
      simp only [hi]
      rw [wanted_eq hF]
      split at h
      · rename_i hw
        rw [hw, if_neg (by simp)]
        split at h
        · rename_i F1 hput
          exact ⟨hS, ih _ _ H F1 A E _ w F' A' Q hp h (hF.put hput trivial) hR hHb hS hQ⟩
        · cases h
      · rename_i hw
        rw [hw, if_pos rfl]
        refine .inl ?_
        have go : ∀ (A1 : AS) (F1 : Fr), heldOk P A1.heap.get H = true → drawA P se call ops r H F1 A1 = some (F', A') → ∀ E' a' w', Stp E A.heap.get A.nxt w E' A1.heap.get A1.nxt w' → RF E' A1.nxt F1 a' → Rep P E' A1.heap.get A1.nxt w' →
            SH P (H.map (conc E)) w' ∧ wpAnyD P ops (NoPanic Q) (SH P (H.map (conc E))) (relOf r) (planLen r) (l.setIfInBounds j true) a' w' := by
          intro A1 F1 hh hd E' a' w' h1 h2 h3
          have e := conc_ext h1.ext hHb
          have hS' := held_ok h3 hh
          rw [← e]
          exact ⟨hS', ih _ _ H F1 A1 E' a' w' F' A' Q hp hd h2 h3 (fun q hq => ⟨Nat.lt_of_lt_of_le (hHb q hq).1 h1.le, AV.bd_mono h1.le (hHb q hq).2⟩) hS' (hQ.trans h1)⟩
        split at h
        · rename_i v e hop
          split at h
          · rename_i A1 hA
            split at h
            · rename_i F1 hput
              split at h
              · rename_i hh
                exact op_step hnm hse hcall hop hF hR ⟨A1, F1, hA, hput, fun E' a' w' _ => go A1 F1 hh h E' a' w'⟩
              · cases h
            · cases h
          · cases h
        · rename_i f args hop
          split at h
          · rename_i v A1 hc
            split at h
            · rename_i F1 hput
              split at h
              · rename_i hh
                exact op_step hnm hse hcall hop hF hR ⟨.ret v, A1, hc, F1, hput, fun E' a' w' _ => go A1 F1 hh h E' a' w'⟩
              · cases h
            · cases h
          · cases h
        · cases h
  · cases hp
theorem A_rel (hnm : NmOk P) (hse : SeOk P se) {call : FuncId → List AV → AS → Option (AEnd × AS)} (hcall : CallOk P call) (ops : Array Oper) (hns : Region.noSelect ops = true) (i : Nat) (r : List PStep) (ih : AOk P se call ops r) : AOk P se call ops (.rel i :: r) := by
  intro l tk H F A E a w F' A' Q hp h hF hR hHb hS hQ
  simp only [planOk] at hp
  split at hp
  · rename_i hready
    have hready := of_decide_eq_true hready
    split at hp
    case h_2 => cases hp
    show wpAnyD _ _ _ _ _ (1 + planLen r) _ _ _
    rw [Nat.add_comm 1]
    refine wpAnyD_all hready (by simp) ?_
    intro j hj
    simp only [List.mem_singleton] at hj
    subst hj
    have hDj : relOf (PStep.rel j :: r) j = true := Nat.beq_refl j
    simp only [if_pos hDj]
    have nil : ∀ (E : En) (w : World), SH P (([] : List Held).map (conc E)) w := fun E w x hx => by cases hx
    simp only [drawA] at h
    split at h
    · cases h
    · rename_i o hi
      unfold wpOp
      simp only [hi]
      rw [wanted_eq hF]
      split at h
      · rename_i hw
        rw [hw, if_neg (by simp)]
        split at h
        · rename_i F1 hput
          exact wpAny_of_D _ _ _ _ (ih _ _ [] F1 A E _ w F' A' Q hp h (hF.put hput trivial) hR (by simp) (nil E w) hQ)
        · cases h
      · rename_i hw
        rw [hw, if_pos rfl]
        refine .inl ?_
        have go : ∀ (A1 : AS) (F1 : Fr), drawA P se call ops r [] F1 A1 = some (F', A') → ∀ E' a' w', Stp E A.heap.get A.nxt w E' A1.heap.get A1.nxt w' → RF E' A1.nxt F1 a' → Rep P E' A1.heap.get A1.nxt w' →
            wpAny P .any ops (NoPanic Q) (planLen r) (l.setIfInBounds j true) a' w' :=
          fun A1 F1 hd E' a' w' h1 h2 h3 => wpAny_of_D _ _ _ _ (ih _ _ [] F1 A1 E' a' w' F' A' Q hp hd h2 h3 (by simp) (nil E' w') (hQ.trans h1))
        split at h
        · rename_i v e hop
          split at h
          · rename_i A1 hA
            split at h
            · rename_i F1 hput
              exact op_step hnm hse hcall hop hF hR ⟨A1, F1, hA, hput, fun E' a' w' _ => go A1 F1 h E' a' w'⟩
            · cases h
          · cases h
        · rename_i f args hop
          split at h
          · rename_i v A1 hc
            split at h
            · rename_i F1 hput
              exact op_step hnm hse hcall hop hF hR ⟨.ret v, A1, hc, F1, hput, fun E' a' w' _ => go A1 F1 h E' a' w'⟩
            · cases h
          · cases h
        · cases h
  · cases hp
theorem A_pair (hnm : NmOk P) (hse : SeOk P se) {call : FuncId → List AV → AS → Option (AEnd × AS)} (hcall : CallOk P call) (ops : Array Oper) (hns : Region.noSelect ops = true) (i j : Nat) (r : List PStep) (ih : AOk P se call ops r) : AOk P se call ops (.pair i j :: r) := by
  intro l tk H F A E a w F' A' Q hp h hF hR hHb hS hQ
  simp only [planOk] at hp
  split at hp
  · rename_i hr0
    obtain ⟨hr0, hij⟩ := of_decide_eq_true hr0
    split at hp
    · rename_i hr1
      have hr1 := of_decide_eq_true hr1
      split at hp
      · rename_i hr2
        have hr2 := of_decide_eq_true hr2
        split at hp
        case h_2 => cases hp
        rename_i hrel1
        split at hp
        case h_2 => cases hp
        rename_i hrel2
        simp only [drawA] at h
        split at h
        · cases h
        · rename_i oi hi
          split at h
          · cases h
          · rename_i oj hj
            split at h
            · cases h
            · rename_i gi
              split at h
              · cases h
              · rename_i gj
                split at h
                · cases h
                · rename_i ai hai
                  split at h
                  · cases h
                  · rename_i aj haj
                    split at h
                    · cases h
                    · rename_i hap
                      split at h
                      · cases h
                      · rename_i A1 hA1
                        split at h
                        · cases h
                        · rename_i A2 hA2
                          split at h
                          · cases h
                          · rename_i F1 hp1
                            split at h
                            · cases h
                            · rename_i F2 hp2
                              split at h
                              · rename_i hh
                                split at h
                                case h_2 => cases h
                                rename_i hh0
                                obtain ⟨a1, a2⟩ := applyE_ok hA1 (fun _ _ _ => trivial)
                                obtain ⟨a3, a4⟩ := applyE_ok hA2 (fun _ _ _ => trivial)
                                have e1 : A1.nxt = A.nxt + 1 := a2
                                have e2 : A2.nxt = A.nxt + 2 := by rw [a4, e1]; rfl
                                obtain ⟨ti, ci, rfl, bi, ri⟩ := fresh_run hF.ev hai
                                obtain ⟨tj, cj, rfl, bj, rj⟩ := fresh_run hF.ev haj
                                have hwi : Region.wanted oi (yielded ops a.tmps) = true := by simp [Region.wanted, gi]
                                have sp := Oper.apart_spec hap
                                -- what is left, in a world with both, whichever came first
                                have go : ∀ (b1 b2 : Nat) (w' : World), w.heap.size ≤ b1 → w.heap.size ≤ b2 → b1 ≠ b2 → w.heap.size ≤ w'.heap.size → (∀ k, k < w.heap.size → w'.heap[k]? = w.heap[k]?) →
                                    w'.heap[b1]? = some (.cells (ci.map (den E)).toArray ti) → w'.heap[b2]? = some (.cells (cj.map (den E)).toArray tj) → w'.os = w.os → w'.tape = w.tape → w'.output = w.output →
                                    SH P (H.map (conc E)) w' ∧ wpAnyD P ops (NoPanic Q) (SH P (H.map (conc E))) (relOf r) (planLen r) ((l.setIfInBounds i true).setIfInBounds j true) ((a.put oi.dst (.pointer (some ⟨b1, 0, none⟩))).put oj.dst (.pointer (some ⟨b2, 0, none⟩))) w' := by
                                  intro b1 b2 w' g1 g2 g3 g4 g5 g6 g7 g8 g9 g10
                                  have hx : Ext A.nxt E ((E.new A.nxt b1 0).new (A.nxt + 1) b2 0) := (E.ext A.nxt b1 0).trans ((E.new A.nxt b1 0).ext (A.nxt + 1) b2 0) (by omega)
                                  have f1 : ((E.new A.nxt b1 0).new (A.nxt + 1) b2 0).ρ A.nxt = b1 := by simp [En.new]
                                  have f2 : ((E.new A.nxt b1 0).new (A.nxt + 1) b2 0).ρ (A.nxt + 1) = b2 := by simp [En.new]
                                  obtain ⟨st, rp⟩ := rep_two hR g1 g2 g3 g4 g5 (o1 := .cells ti ci false) (o2 := .cells tj cj false)
                                    ⟨[], by rw [f1, map_ext hx bi, List.append_nil]; exact g6, fun _ => rfl, fun h => by cases h⟩ ⟨[], by rw [f2, map_ext hx bj, List.append_nil]; exact g7, fun _ => rfl, fun h => by cases h⟩ bi bj g8 g9 g10
                                  rw [← a1] at st rp
                                  have e1' : A.nxt + 1 = A1.nxt := e1.symm
                                  rw [e1'] at st rp
                                  rw [← a3] at st rp
                                  have e2' : A.nxt + 2 = A2.nxt := e2.symm
                                  rw [e2'] at st rp
                                  rw [e1'] at f1 f2 hx
                                  generalize (E.new A.nxt b1 0).new A1.nxt b2 0 = E' at *
                                  have hF0 := hF.ext st.ext st.le
                                  have hF1 := hF0.put hp1 (show A.nxt < A2.nxt by omega)
                                  have hF2 := hF1.put hp2 (show A1.nxt < A2.nxt by omega)
                                  simp only [den, f1, f2] at hF2
                                  have e := conc_ext st.ext hHb
                                  have hS' := held_ok rp hh
                                  rw [← e]
                                  exact ⟨hS', ih _ _ H F2 A2 E' _ w' F' A' Q hp h hF2 rp (fun q hq => ⟨Nat.lt_of_lt_of_le (hHb q hq).1 st.le, AV.bd_mono st.le (hHb q hq).2⟩) hS' (hQ.trans st)⟩
                                have held : ∀ (o : Obj), SH P (H.map (conc E)) (w.alloc o) := fun o =>
                                  held_ok (R := A.heap.get) (n := A.nxt) ⟨fun g q hg => (hR.obj g q hg).same (Below.heap_alloc _ _ _ (hR.lt hg)), hR.bd, hR.inj⟩ hh0
                                show wpAnyD _ _ _ _ _ (2 + planLen r) _ _ _
                                rw [Nat.add_comm 2]
                                have n1 : ¬ (relOf (PStep.pair i j :: r) i = true) := by show ¬ (relOf r i = true); rw [hrel1]; simp
                                have n2 : ¬ (relOf (PStep.pair i j :: r) j = true) := by show ¬ (relOf r j = true); rw [hrel2]; simp
                                refine wpAnyD_all hr0 (by simp) ?_
                                intro k hk
                                simp only [List.mem_cons, List.not_mem_nil, or_false] at hk
                                rcases hk with rfl | rfl
                                · simp only [if_neg n1]
                                  unfold wpOp
                                  simp only [hi]
                                  rw [if_pos hwi]
                                  refine .inl ?_
                                  unfold Oper.wp
                                  rw [ri w]
                                  refine ⟨held _, wpAnyD_all hr1 (by simp) ?_⟩
                                  intro k' hk'
                                  simp only [List.mem_singleton] at hk'
                                  subst hk'
                                  simp only [if_neg n2]
                                  unfold wpOp
                                  simp only [hj]
                                  have hwj : ∀ a : Act, Region.wanted oj (yielded ops a.tmps) = true := fun a => by simp [Region.wanted, gj]
                                  rw [if_pos (hwj _)]
                                  refine .inl ?_
                                  unfold Oper.wp
                                  rw [execOp_put (ops := ops) oj (fun cs b => Region.noSelect_spec hns k' oj cs b hj) a oi.dst _ sp.1, rj]
                                  have hz : (w.alloc (.cells (ci.map (den E)).toArray ti)).heap.size = w.heap.size + 1 := by simp
                                  rw [hz]
                                  refine go w.heap.size (w.heap.size + 1) ((w.alloc (.cells (ci.map (den E)).toArray ti)).alloc (.cells (cj.map (den E)).toArray tj)) (Nat.le_refl _) (by omega) (by omega) (by simp; omega) (fun k hk => ?_) ?_ ?_ rfl rfl rfl
                                  · rw [Below.heap_alloc _ _ _ (by simp; omega), Below.heap_alloc _ _ _ hk]
                                  · rw [Below.heap_alloc _ _ _ (by simp)]
                                    show (w.heap.push _)[w.heap.size]? = _
                                    simp
                                  · show ((w.heap.push _).push _)[w.heap.size + 1]? = _
                                    rw [Array.getElem?_push, if_pos (by simp)]
                                · simp only [if_neg n2]
                                  unfold wpOp
                                  simp only [hj]
                                  have hwj : ∀ a : Act, Region.wanted oj (yielded ops a.tmps) = true := fun a => by simp [Region.wanted, gj]
                                  rw [if_pos (hwj _)]
                                  refine .inl ?_
                                  unfold Oper.wp
                                  rw [rj w]
                                  refine ⟨held _, wpAnyD_all hr2 (by simp) ?_⟩
                                  intro k' hk'
                                  simp only [List.mem_singleton] at hk'
                                  subst hk'
                                  simp only [if_neg n1]
                                  unfold wpOp
                                  simp only [hi]
                                  have hwi' : ∀ a : Act, Region.wanted oi (yielded ops a.tmps) = true := fun a => by simp [Region.wanted, gi]
                                  rw [if_pos (hwi' _)]
                                  refine .inl ?_
                                  unfold Oper.wp
                                  rw [execOp_put (ops := ops) oi (fun cs b => Region.noSelect_spec hns k' oi cs b hi) a oj.dst _ sp.2.2, ri]
                                  rw [Array.setIfInBounds_comm _ _ (Ne.symm hij)]
                                  have hz : (w.alloc (.cells (cj.map (den E)).toArray tj)).heap.size = w.heap.size + 1 := by simp
                                  rw [hz]
                                  have := go (w.heap.size + 1) w.heap.size ((w.alloc (.cells (cj.map (den E)).toArray tj)).alloc (.cells (ci.map (den E)).toArray ti)) (by omega) (Nat.le_refl _) (by omega) (by simp; omega) (fun k hk => by rw [Below.heap_alloc _ _ _ (by simp; omega), Below.heap_alloc _ _ _ hk])
                                    (by show ((w.heap.push _).push _)[w.heap.size + 1]? = _; rw [Array.getElem?_push, if_pos (by simp)]) (by rw [Below.heap_alloc _ _ _ (by simp)]; show (w.heap.push _)[w.heap.size]? = _; simp) rfl rfl rfl
                                  rw [Act.put_comm _ _ _ (fun d hd => sp.2.1 d hd)] at this
                                  exact this
                              · cases h
      · cases hp
    · cases hp
  · cases hp

/-! ### An operation that makes a block at whatever time -/
theorem fresh_any (hnm : NmOk P) (hse : SeOk P se) {o : Oper} {E : En} {n : Nat} {ev : Operand → Option AV} {ρ : Operand → Value} {v : AV} {t : TypeId} {cs : List AV} (hE : EvOk E n ev ρ)
    (h : opA P se ev (fun _ => none) n o.op = some (.val v (.new (.cells t cs false)))) :
    (∀ w, (execOp ρ o).run P w = .ok (.value (den (E.new n w.heap.size 0) v)) (w.alloc (.cells (cs.map (den E)).toArray t))) ∧ (∀ u ∈ cs, AV.bd n u) ∧ v.bd (n + 1) := by
  have go : ∀ w, _ ∧ _ ∧ _ := fun w => by
    have hR0 : Rep P E (fun _ => none) n w := ⟨fun g o h => by (cases h), fun g o h => by (cases h), fun g h o o' h1 => by (cases h1)⟩
    obtain ⟨E', w1, hres, hvb, hst, hrep, hnone, hfresh⟩ := opA_ok hnm hse hR0 hE h
    exact (⟨(hfresh t cs rfl).1, (hfresh t cs rfl).2, hvb⟩ : (execOp ρ o).run P w = .ok (.value (den (E.new n w.heap.size 0) v)) (w.alloc (.cells (cs.map (den E)).toArray t)) ∧ (∀ u ∈ cs, AV.bd n u) ∧ v.bd (n + 1))
  exact ⟨fun w => (go w).1, (go default).2.1, (go default).2.2⟩
theorem rep_alloc {E : En} {R : Rd} {n : Nat} {w : World} (h : Rep P E R n w) (o : Obj) : Rep P E R n (w.alloc o) :=
  ⟨fun g q hg => (h.obj g q hg).same (Below.heap_alloc _ _ _ (h.lt hg)), h.bd, h.inj⟩
theorem stp_alloc (E : En) (R : Rd) (n : Nat) (w : World) (o : Obj) : Stp E R n w E R n (w.alloc o) :=
  ⟨Ext.refl _ _, Nat.le_refl _, rfl, rfl, rfl, by simp, fun b hb _ => Below.heap_alloc _ _ _ hb, fun g o h => .inr ⟨g, o, h, rfl⟩⟩
/-- a block that lies there already becomes known -/
theorem rep_one {E : En} {R : Rd} {n β : Nat} {w : World} {o : AO} (h : Rep P E R n w) (hβ : ∀ g q, R g = some q → E.ρ g ≠ β) (ho : OB P (E.new n β 0) n w o) (hb : o.bd n) :
    Rep P (E.new n β 0) (effR (.new o) R n) (n + 1) w := by
  have hx := E.ext n β 0
  have s2 : ∀ g q, effR (.new o) R n g = some q → (g = n ∧ q = o) ∨ R g = some q := by
    intro g q hg
    simp only [effR] at hg
    split at hg
    · rename_i e; simp only [Option.some.injEq] at hg; exact .inl ⟨e, hg.symm⟩
    · exact .inr hg
  refine ⟨?_, ?_, ?_⟩
  · intro g q hg
    rcases s2 g q hg with ⟨rfl, rfl⟩ | hg
    · exact ho
    · exact (h.obj g q hg).ext hx (h.bd g q hg).1 (h.bd g q hg).2
  · intro g q hg
    rcases s2 g q hg with ⟨rfl, rfl⟩ | hg
    · exact ⟨by omega, AO.bd_mono (by omega) hb⟩
    · exact ⟨by have := (h.bd g q hg).1; omega, AO.bd_mono (by omega) (h.bd g q hg).2⟩
  · intro g k q q' hg hk he
    rcases s2 g q hg with ⟨eg, -⟩ | hg <;> rcases s2 k q' hk with ⟨ek, -⟩ | hk
    · rw [eg, ek]
    · rw [eg, En.new_ρ, hx.ρ k (h.bd k q' hk).1] at he; exact absurd he.symm (hβ k q' hk)
    · rw [ek, En.new_ρ, hx.ρ g (h.bd g q hg).1] at he; exact absurd he (hβ g q hg)
    · rw [hx.ρ g (h.bd g q hg).1, hx.ρ k (h.bd k q' hk).1] at he
      exact h.inj g k q q' hg hk he
theorem wpOp_shift {ops : Array Oper} {i : Nat} {oL o : Oper} {v : Value} (hi : ops[i]? = some o) (hap : oL.apart ops o = true) (hs : ∀ cs b, o.op ≠ .select cs b) {K : Act → World → Prop} {Q : Exit → Act → World → Prop} {a : Act} {w : World}
    (h : wpOp P ops (NoPanic Q) i (fun a' w' => K (a'.put oL.dst v) w') a w) : wpOp P ops (NoPanic Q) i K (a.put oL.dst v) w := by
  obtain ⟨h1, h2, h3⟩ := Oper.apart_spec hap
  unfold wpOp at *
  simp only [hi] at *
  rw [wanted_put o a oL.dst v h1]
  split
  · rename_i hw
    simp only [hw, if_true] at h
    rcases h with h | ⟨hasks, hlets⟩
    case inr => exact .inr ⟨by unfold Oper.asks at *; rw [execOp_put o hs a oL.dst v h1]; exact hasks, hlets⟩
    refine .inl ?_
    unfold Oper.wp at *
    rw [execOp_put o hs a oL.dst v h1]
    generalize (execOp a.eval o).run P w = r at *
    cases r with
    | ok n w' =>
      cases n <;> simp only [Oper.upon] at h ⊢
      case value u => rw [Act.put_comm a v u h2]; exact h
      case skip => rw [Act.put_comm a v undef h2]; exact h
      case defer d =>
        rw [Act.put_defers, Act.put_comm _ v undef h2]
        exact h
      case enter f args =>
        refine Calls.mono h fun e w'' he => ?_
        cases e with
        | returned u => simp only at he ⊢; rw [Act.put_comm a v u h2]; exact he
        | panicked c => exact he
        | outgrown => exact he
      case row row args => exact Rows.mono h fun u w'' he => by rw [Act.put_comm a v u h2]; exact he
    | halt x w' =>
      cases x <;> simp only [Oper.upon] at h ⊢
      case panic u => exact h
  · rename_i hw
    simp only [hw] at h
    rw [Act.put_comm a v undef h2]
    exact h
/-- L has come -/
def FXOk (P : Program) (se : List TypeId) (call : FuncId → List AV → AS → Option (AEnd × AS)) (ops : Array Oper) (L : Nat) (plan : List PStep) : Prop :=
  ∀ (oL : Oper) (l : Array Bool) (tk : List Nat) (H : List Held) (F : Fr) (A : AS) (E : En) (a : Act) (w : World) (F' : Fr) (A' : AS) (Q : Exit → Act → World → Prop) (E0 : En) (A0 : AS) (w0 : World) (β : Nat) (vL : Value) (obj : Obj) (we : World),
    ops[L]? = some oL → planF ops L plan l tk = true → drawF P se call ops oL plan H F A = some (F', A') → RF E A.nxt F a → Rep P E A.heap.get A.nxt w → (∀ h ∈ H, Held.bd A.nxt h) →
    (∀ w', Rep P E A.heap.get A.nxt w' → SH P (H.map (conc E)) w') → QOk P E0 A0 w0 .normal F' A' Q → Stp E0 A0.heap.get A0.nxt w0 E A.heap.get A.nxt w →
    we.heap.size = β → (execOp a.eval oL).run P we = .ok (.value vL) (we.alloc obj) → w.heap[β]? = some obj → w0.heap.size ≤ β → (∀ g o, A.heap.get g = some o → E.ρ g ≠ β) →
    wpAnyD P ops (NoPanic Q) (SH P (H.map (conc E))) (relOf plan) (planLen plan - 1) (l.setIfInBounds L true) (a.put oL.dst vL) w
/-- L has not come yet -/
def FUOk (P : Program) (se : List TypeId) (call : FuncId → List AV → AS → Option (AEnd × AS)) (ops : Array Oper) (L : Nat) (plan : List PStep) : Prop :=
  ∀ (oL : Oper) (l : Array Bool) (tk : List Nat) (H : List Held) (F : Fr) (A : AS) (E : En) (a : Act) (w : World) (F' : Fr) (A' : AS) (Q : Exit → Act → World → Prop) (E0 : En) (A0 : AS) (w0 : World) (V : Nat → Value) (obj : Obj),
    ops[L]? = some oL → oL.guard = none → planF ops L plan l tk = true → drawF P se call ops oL plan H F A = some (F', A') → RF E A.nxt F a → Rep P E A.heap.get A.nxt w → (∀ h ∈ H, Held.bd A.nxt h) →
    (∀ w', Rep P E A.heap.get A.nxt w' → SH P (H.map (conc E)) w') → QOk P E0 A0 w0 .normal F' A' Q → Stp E0 A0.heap.get A0.nxt w0 E A.heap.get A.nxt w →
    (∀ w, (execOp a.eval oL).run P w = .ok (.value (V w.heap.size)) (w.alloc obj)) →
    wpAnyD P ops (NoPanic Q) (SH P (H.map (conc E))) (relOf plan) (planLen plan) l a w
theorem planF_len {ops : Array Oper} {L : Nat} : ∀ {plan : List PStep} {l : Array Bool} {tk : List Nat}, planF ops L plan l tk = true → 1 ≤ planLen plan
  | [], _, _, h => by simp [planF] at h
  | .take _ :: r, _, _, _ => by show 1 ≤ 1 + planLen r; omega
  | .step _ :: _, _, _, h => by simp [planF] at h
  | .pair _ _ :: _, _, _, h => by simp [planF] at h
  | .rel _ :: _, _, _, h => by simp [planF] at h
  | .open _ :: _, _, _, h => by simp [planF] at h
  | .fstep _ :: r, _, _, _ => by show 1 ≤ 1 + planLen r; omega
  | .land :: r, _, _, _ => by show 1 ≤ 1 + planLen r; omega
theorem apart_at {ops : Array Oper} {i j : Nat} {x y : Oper} (hx : ops[i]? = some x) (hy : ops[j]? = some y) (h : apartAt ops i j = true) : x.apart ops y = true := by
  unfold apartAt at h
  rw [hx, hy] at h
  exact h
section arms
variable {call : FuncId → List AV → AS → Option (AEnd × AS)} {ops : Array Oper} {L : Nat} {r : List PStep}
theorem FX_land (hnm : NmOk P) (hse : SeOk P se) (ih : AOk P se call ops r) : FXOk P se call ops L (.land :: r) := by
  intro oL l tk H F A E a w F' A' Q E0 A0 w0 β vL obj we hL hp h hF hR hHb hHS hQ hst hwe hrun hblk hβ0 hβ
  simp only [planF] at hp
  split at hp
  case h_2 => cases hp
  simp only [drawF] at h
  split at h
  case h_2 => cases h
  rename_i v t cs hop
  split at h
  case h_2 => cases h
  rename_i A1 hA
  split at h
  case h_2 => cases h
  rename_i F1 hput
  split at h
  case h_2 => cases h
  rename_i hh
  obtain ⟨hfr, hcb, hvb⟩ := fresh_any hnm hse hF.ev hop
  have h1 := hfr we
  rw [hrun, hwe] at h1
  injection h1 with h1 h2
  injection h1 with h1
  have hobj : obj = .cells (cs.map (den E)).toArray t := by
    have e1 : (we.alloc obj).heap[we.heap.size]? = (we.alloc (.cells (cs.map (den E)).toArray t)).heap[we.heap.size]? := by rw [h2]
    have e2 : ∀ o : Obj, (we.alloc o).heap[we.heap.size]? = some o := fun o => by
      show (we.heap.push o)[we.heap.size]? = some o
      simp
    rw [e2, e2] at e1
    exact Option.some.inj e1
  subst hobj
  subst h1
  obtain ⟨a1, a2⟩ := applyE_ok hA (fun _ _ _ => trivial)
  have e1 : A1.nxt = A.nxt + 1 := a2
  have hx := E.ext A.nxt β 0
  have hrep : Rep P (E.new A.nxt β 0) A1.heap.get A1.nxt w := by
    rw [a1, e1]
    exact rep_one hR hβ ⟨[], by rw [En.new_ρ, map_ext hx hcb, List.append_nil]; exact hblk, fun _ => rfl, fun h => by cases h⟩ hcb
  have hst' : Stp E0 A0.heap.get A0.nxt w0 (E.new A.nxt β 0) A1.heap.get A1.nxt w := by
    refine ⟨hst.ext.trans hx hst.le, by have := hst.le; omega, hst.os, hst.tape, hst.output, hst.size, hst.keep, ?_⟩
    intro g q hg
    rw [a1] at hg
    simp only [effR] at hg
    split at hg
    · rename_i e; exact .inl (by rw [e, En.new_ρ]; exact hβ0)
    · rcases hst.src g q hg with h3 | ⟨k, o', hk, he⟩
      · exact .inl (by rw [hx.ρ g (hR.bd g q hg).1]; exact h3)
      · exact .inr ⟨k, o', hk, by rw [hx.ρ g (hR.bd g q hg).1]; exact he⟩
  have hF1 := (hF.ext hx (by omega : A.nxt ≤ A1.nxt)).put hput (by rw [e1]; exact hvb)
  have hb2 : ∀ h ∈ H, Held.bd A1.nxt h := fun q hq => ⟨by have := (hHb q hq).1; omega, AV.bd_mono (by omega) (hHb q hq).2⟩
  have hS' := held_ok hrep hh
  have hfin := ih _ _ H F1 A1 (E.new A.nxt β 0) _ w F' A' Q hp h hF1 hrep hb2 hS' (hQ.trans hst')
  rw [conc_ext hx hHb] at hfin
  have e3 : planLen (.land :: r) - 1 = planLen r := by show 1 + planLen r - 1 = _; omega
  rw [e3]
  exact hfin
theorem FX_take (hnm : NmOk P) (hse : SeOk P se) (hns : Region.noSelect ops = true) {i : Nat} (ih : FXOk P se call ops L r) : FXOk P se call ops L (.take i :: r) := by
  intro oL l tk H F A E a w F' A' Q E0 A0 w0 β vL obj we hL hp h hF hR hHb hHS hQ hst hwe hrun hblk hβ0 hβ
  have hfull := hp
  simp only [planF] at hp
  split at hp
  case h_2 => cases hp
  rename_i hc
  simp only [Bool.and_eq_true, Bool.not_eq_true', decide_eq_true_eq] at hc
  obtain ⟨⟨⟨-, -⟩, hfree, hready⟩, hDi, hap, hne, hcl⟩ := hc
  have hlen := planF_len hp
  have e0 : planLen (.take i :: r) - 1 = (planLen r - 1) + 1 := by show 1 + planLen r - 1 = _; omega
  rw [e0]
  simp only [drawF] at h
  split at h
  · cases h
  rename_i o hi
  have hap := apart_at hL hi hap
  have sp := Oper.apart_spec hap
  have hsel : ∀ cs b, o.op ≠ .select cs b := fun cs b => Region.noSelect_spec hns i o cs b hi
  have hselL : ∀ cs b, oL.op ≠ .select cs b := fun cs b => Region.noSelect_spec hns L oL cs b hL
  have hwant : Region.wanted o (yielded ops (a.put oL.dst vL).tmps) = wantedA F ops o := by rw [wanted_put o a oL.dst vL sp.1, wanted_eq hF]
  have hS : SH P (H.map (conc E)) w := hHS w hR
  have step : ∀ (v : AV) (F1 : Fr) (H1 : List Held), putF F o.dst v = some F1 → v.bd A.nxt → drawF P se call ops oL r H1 F1 A = some (F', A') → (∀ h ∈ H1, Held.bd A.nxt h) → (∀ w', Rep P E A.heap.get A.nxt w' → SH P (H1.map (conc E)) w') →
      wpAnyD P ops (NoPanic Q) (SH P (H1.map (conc E))) (relOf r) (planLen r - 1) ((l.setIfInBounds L true).setIfInBounds i true) ((a.put oL.dst vL).put o.dst (den E v)) w := by
    intro v F1 H1 hput hvb hd hb hs
    have := ih oL (l.setIfInBounds i true) _ H1 F1 A E (a.put o.dst (den E v)) w F' A' Q E0 A0 w0 β vL obj we hL hp hd (hF.put hput hvb) hR hb hs hQ hst hwe (by rw [execOp_put (ops := ops) oL hselL a o.dst _ sp.2.2]; exact hrun) hblk hβ0 hβ
    rw [Act.put_comm a vL (den E v) sp.2.1, Array.setIfInBounds_comm _ _ (Ne.symm hne)]
    exact this
  split at h
  · rename_i hw
    split at h
    · rename_i F1 hput
      exact wpAnyD_takeP hi hns hfree hready (NoPanic_put _ _) hDi (.inr ⟨by rw [hwant]; exact hw, rfl⟩) hS (step undefA F1 H hput trivial h hHb hHS)
    · cases h
  · rename_i hw
    split at h
    · rename_i t x hop
      split at h
      · rename_i g q hx
        split at h
        · rename_i v hv
          split at h
          · rename_i F1 hput
            have hl := load_ok hR hv
            have hil : isLoad ops i = true := by simp [isLoad, hi, hop]
            have hDw : ∀ j, relOf r j = true → waits ops j i = true := fun j hj => (plan_waits2 r).2 L _ _ hp j hj i (by rw [hil]; simp)
            have hHS' : ∀ w', Rep P E A.heap.get A.nxt w' → SH P ((Held.mk t g q v :: H).map (conc E)) w' := by
              intro w' hR' y hy
              simp only [List.map_cons, List.mem_cons] at hy
              rcases hy with rfl | hy
              · exact (load_ok hR' hv).1
              · exact hHS w' hR' y hy
            refine wpAnyD_mono (S' := SH P ((Held.mk t g q v :: H).map (conc E))) (fun w h y hy => h y (by simp only [List.map_cons, List.mem_cons]; exact .inr hy)) _ _ _ _ ?_
            refine wpAnyD_take (v := den E v) hi (by simp only [hil, Bool.and_eq_true] at hcl; exact clB_iff hcl.2) hns hfree hready (NoPanic_put _ _) hDw hDi (.inl ⟨by rw [hwant]; exact hw, fun w' hw' => ?_⟩) (hHS' w hR)
              (step v F1 (Held.mk t g q v :: H) hput hl.2 h (fun y hy => by
                rcases List.mem_cons.1 hy with rfl | hy
                · exact ⟨(hF.ev _ _ hx).2, hl.2⟩
                · exact hHb y hy) hHS')
            have h1 := hw' (conc E (Held.mk t g q v)) (by simp)
            rw [execOp_put (ops := ops) o hsel a oL.dst vL sp.1]
            simp only [execOp, hop, (hF.ev _ _ hx).1, den]
            refine run_v_ok ?_
            simp only [Instr.loadAt, Instr.sureAddr, Sem.run_bind, Sem.run_pure, Result.andThen_ok]
            exact h1
          · cases h
        · cases h
      · cases h
    · rename_i hnl
      split at h
      · rename_i v hop
        split at h
        · rename_i F1 hput
          have hany : ∀ w', (execOp a.eval o).run P w' = .ok (.value (den E v)) w' ∧ v.bd A.nxt := fun w' => by
            have hR0 : Rep P E (fun _ => none) A.nxt w' := ⟨fun g o h => by (cases h), fun g o h => by (cases h), fun g h o o' h1 => by (cases h1)⟩
            obtain ⟨E', w1, hres, hvb, hst, hrep, hnone, -⟩ := opA_ok hnm hse hR0 hF.ev hop
            exact ⟨hnone rfl, hvb⟩
          exact wpAnyD_takeP hi hns hfree hready (NoPanic_put _ _) hDi (.inl ⟨by rw [hwant]; exact hw, fun w' => by rw [execOp_put (ops := ops) o hsel a oL.dst vL sp.1]; exact (hany w').1⟩) hS (step v F1 H hput (hany w).2 h hHb hHS)
        · cases h
      · rename_i f args hop
        split at h
        · rename_i v hpc
          split at h
          · rename_i F1 hput
            have hab := (opA_ok hnm hse (rep_none E A.nxt w) hF.ev hop).2
            have hc := pCall_ok hnm hse hpc (E := E) hab
            exact wpAnyD_takeC hi hns hfree hready (NoPanic_put _ _) hDi ⟨by rw [hwant]; exact hw, f, _, fun w' => (by rw [execOp_put (ops := ops) o hsel a oL.dst vL sp.1]; exact (opA_ok hnm hse (rep_none E A.nxt w') hF.ev hop).1), hc.1⟩ hS (step v F1 H hput hc.2 h hHb hHS)
          · cases h
        · cases h
      · cases h
theorem FX_fstep (hnm : NmOk P) (hse : SeOk P se) (hcall : CallOk P call) (hns : Region.noSelect ops = true) {i : Nat} (ih : FXOk P se call ops L r) : FXOk P se call ops L (.fstep i :: r) := by
  intro oL l tk H F A E a w F' A' Q E0 A0 w0 β vL obj we hL hp h hF hR hHb hHS hQ hst hwe hrun hblk hβ0 hβ
  simp only [planF] at hp
  split at hp
  case h_2 => cases hp
  rename_i hc
  simp only [Bool.and_eq_true, Bool.not_eq_true', decide_eq_true_eq] at hc
  obtain ⟨⟨hne, -, hready⟩, hDi, -, hap⟩ := hc
  have hlen := planF_len hp
  have e0 : planLen (.fstep i :: r) - 1 = (planLen r - 1) + 1 := by show 1 + planLen r - 1 = _; omega
  rw [e0]
  refine wpAnyD_all hready (by simp) ?_
  intro j hj
  simp only [List.mem_singleton] at hj
  subst hj
  have n0 : ¬ (relOf (PStep.fstep j :: r) j = true) := by show ¬ (relOf r j = true); rw [hDi]; simp
  simp only [if_neg n0]
  simp only [drawF] at h
  split at h
  · cases h
  rename_i o hi
  have hap := apart_at hL hi hap
  have sp := Oper.apart_spec hap
  have hsel : ∀ cs b, o.op ≠ .select cs b := fun cs b => Region.noSelect_spec hns j o cs b hi
  have hselL : ∀ cs b, oL.op ≠ .select cs b := fun cs b => Region.noSelect_spec hns L oL cs b hL
  refine wpOp_shift hi hap hsel ?_
  have go : ∀ (A1 : AS) (F1 : Fr) (E' : En) (a' : Act) (w' : World), (∃ u, a' = a.put o.dst u) → drawF P se call ops oL r H F1 A1 = some (F', A') → (∀ w', Rep P E' A1.heap.get A1.nxt w' → SH P (H.map (conc E')) w') → Stp E A.heap.get A.nxt w E' A1.heap.get A1.nxt w' → RF E' A1.nxt F1 a' → Rep P E' A1.heap.get A1.nxt w' →
      SH P (H.map (conc E)) w' ∧ wpAnyD P ops (NoPanic Q) (SH P (H.map (conc E))) (relOf r) (planLen r - 1) ((l.setIfInBounds L true).setIfInBounds j true) (a'.put oL.dst vL) w' := by
    rintro A1 F1 E' a' w' ⟨u, rfl⟩ hd hs h1 h2 h3
    have hblt : β < w.heap.size := (Array.getElem?_eq_some_iff.1 hblk).1
    have e := conc_ext h1.ext hHb
    have := ih oL (l.setIfInBounds j true) _ H F1 A1 E' (a.put o.dst u) w' F' A' Q E0 A0 w0 β vL obj we hL hp hd h2 h3 (fun q hq => ⟨Nat.lt_of_lt_of_le (hHb q hq).1 h1.le, AV.bd_mono h1.le (hHb q hq).2⟩) hs hQ (hst.trans h1) hwe
      (by rw [execOp_put (ops := ops) oL hselL a o.dst _ sp.2.2]; exact hrun) (by rw [h1.keep β hblt hβ]; exact hblk) hβ0 (fun g q hg he => by
        rcases h1.src g q hg with h4 | ⟨k, o', hk, hk2⟩
        · omega
        · exact hβ k o' hk (hk2.trans he))
    rw [e] at this
    rw [Array.setIfInBounds_comm _ _ (Ne.symm hne)]
    exact ⟨by rw [← e]; exact hs w' h3, this⟩
  unfold wpOp
  simp only [hi]
  rw [wanted_eq hF]
  split at h
  · rename_i hw
    rw [hw, if_neg (by simp)]
    split at h
    · rename_i F1 hput
      exact go A F1 E _ w ⟨undef, rfl⟩ h hHS (Stp.refl _ _ _ _) (hF.put hput trivial) hR
    · cases h
  · rename_i hw
    rw [hw, if_pos rfl]
    refine .inl ?_
    split at h
    · rename_i v e hop
      split at h
      · rename_i A1 hA
        split at h
        · rename_i F1 hput
          split at h
          · rename_i hh
            exact op_step hnm hse hcall hop hF hR ⟨A1, F1, hA, hput, fun E' a' w' hu h1 h2 h3 => go A1 F1 E' a' w' hu h (fun w2 hr2 => held_ok hr2 hh) h1 h2 h3⟩
          · cases h
        · cases h
      · cases h
    · rename_i f args hop
      split at h
      · rename_i v A1 hc
        split at h
        · rename_i F1 hput
          split at h
          · rename_i hh
            exact op_step hnm hse hcall hop hF hR ⟨.ret v, A1, hc, F1, hput, fun E' a' w' hu h1 h2 h3 => go A1 F1 E' a' w' hu h (fun w2 hr2 => held_ok hr2 hh) h1 h2 h3⟩
          · cases h
        · cases h
      · cases h
    · cases h
theorem FU_take (hnm : NmOk P) (hse : SeOk P se) (hns : Region.noSelect ops = true) {i : Nat} (ih : FUOk P se call ops L r) : FUOk P se call ops L (.take i :: r) := by
  intro oL l tk H F A E a w F' A' Q E0 A0 w0 V obj hL hgL hp h hF hR hHb hHS hQ hst hrun
  have hfull := hp
  simp only [planF] at hp
  split at hp
  case h_2 => cases hp
  rename_i hc
  simp only [Bool.and_eq_true, Bool.not_eq_true', decide_eq_true_eq] at hc
  obtain ⟨⟨⟨hfree, hready⟩, -, -⟩, hDi, hap, hne, hcl⟩ := hc
  have hlen := planF_len hp
  have e0 : planLen (.take i :: r) = planLen r + 1 := by show 1 + planLen r = _; omega
  rw [e0]
  simp only [drawF] at h
  split at h
  · cases h
  rename_i o hi
  have hap := apart_at hL hi hap
  have sp := Oper.apart_spec hap
  have hsel : ∀ cs b, o.op ≠ .select cs b := fun cs b => Region.noSelect_spec hns i o cs b hi
  have hselL : ∀ cs b, oL.op ≠ .select cs b := fun cs b => Region.noSelect_spec hns L oL cs b hL
  have hwant : Region.wanted o (yielded ops a.tmps) = wantedA F ops o := wanted_eq hF ops o
  have hS : SH P (H.map (conc E)) w := hHS w hR
  have step : ∀ (v : AV) (F1 : Fr) (H1 : List Held), putF F o.dst v = some F1 → v.bd A.nxt → drawF P se call ops oL r H1 F1 A = some (F', A') → (∀ h ∈ H1, Held.bd A.nxt h) → (∀ w', Rep P E A.heap.get A.nxt w' → SH P (H1.map (conc E)) w') →
      wpAnyD P ops (NoPanic Q) (SH P (H1.map (conc E))) (relOf r) (planLen r) (l.setIfInBounds i true) (a.put o.dst (den E v)) w := by
    intro v F1 H1 hput hvb hd hb hs
    exact ih oL (l.setIfInBounds i true) _ H1 F1 A E (a.put o.dst (den E v)) w F' A' Q E0 A0 w0 V obj hL hgL hp hd (hF.put hput hvb) hR hb hs hQ hst (fun w2 => by rw [execOp_put (ops := ops) oL hselL a o.dst _ sp.2.2]; exact hrun w2)
  split at h
  · rename_i hw
    split at h
    · rename_i F1 hput
      exact wpAnyD_takeP hi hns hfree hready (NoPanic_put _ _) hDi (.inr ⟨by rw [hwant]; exact hw, rfl⟩) hS (step undefA F1 H hput trivial h hHb hHS)
    · cases h
  · rename_i hw
    split at h
    · rename_i t x hop
      split at h
      · rename_i g q hx
        split at h
        · rename_i v hv
          split at h
          · rename_i F1 hput
            have hl := load_ok hR hv
            have hil : isLoad ops i = true := by simp [isLoad, hi, hop]
            have hDw : ∀ j, relOf r j = true → waits ops j i = true := fun j hj => (plan_waits2 r).2 L _ _ hp j hj i (by rw [hil]; simp)
            have hHS' : ∀ w', Rep P E A.heap.get A.nxt w' → SH P ((Held.mk t g q v :: H).map (conc E)) w' := by
              intro w' hR' y hy
              simp only [List.map_cons, List.mem_cons] at hy
              rcases hy with rfl | hy
              · exact (load_ok hR' hv).1
              · exact hHS w' hR' y hy
            refine wpAnyD_mono (S' := SH P ((Held.mk t g q v :: H).map (conc E))) (fun w h y hy => h y (by simp only [List.map_cons, List.mem_cons]; exact .inr hy)) _ _ _ _ ?_
            refine wpAnyD_take (v := den E v) hi (by simp only [hil, Bool.and_eq_true] at hcl; exact clB_iff hcl.1) hns hfree hready (NoPanic_put _ _) hDw hDi (.inl ⟨by rw [hwant]; exact hw, fun w' hw' => ?_⟩) (hHS' w hR)
              (step v F1 (Held.mk t g q v :: H) hput hl.2 h (fun y hy => by
                rcases List.mem_cons.1 hy with rfl | hy
                · exact ⟨(hF.ev _ _ hx).2, hl.2⟩
                · exact hHb y hy) hHS')
            have h1 := hw' (conc E (Held.mk t g q v)) (by simp)
            simp only [execOp, hop, (hF.ev _ _ hx).1, den]
            refine run_v_ok ?_
            simp only [Instr.loadAt, Instr.sureAddr, Sem.run_bind, Sem.run_pure, Result.andThen_ok]
            exact h1
          · cases h
        · cases h
      · cases h
    · rename_i hnl
      split at h
      · rename_i v hop
        split at h
        · rename_i F1 hput
          have hany : ∀ w', (execOp a.eval o).run P w' = .ok (.value (den E v)) w' ∧ v.bd A.nxt := fun w' => by
            have hR0 : Rep P E (fun _ => none) A.nxt w' := ⟨fun g o h => by (cases h), fun g o h => by (cases h), fun g h o o' h1 => by (cases h1)⟩
            obtain ⟨E', w1, hres, hvb, hst, hrep, hnone, -⟩ := opA_ok hnm hse hR0 hF.ev hop
            exact ⟨hnone rfl, hvb⟩
          exact wpAnyD_takeP hi hns hfree hready (NoPanic_put _ _) hDi (.inl ⟨by rw [hwant]; exact hw, fun w' => (hany w').1⟩) hS (step v F1 H hput (hany w).2 h hHb hHS)
        · cases h
      · rename_i f args hop
        split at h
        · rename_i v hpc
          split at h
          · rename_i F1 hput
            have hab := (opA_ok hnm hse (rep_none E A.nxt w) hF.ev hop).2
            have hc := pCall_ok hnm hse hpc (E := E) hab
            exact wpAnyD_takeC hi hns hfree hready (NoPanic_put _ _) hDi ⟨by rw [hwant]; exact hw, f, _, fun w' => (opA_ok hnm hse (rep_none E A.nxt w') hF.ev hop).1, hc.1⟩ hS (step v F1 H hput hc.2 h hHb hHS)
          · cases h
        · cases h
      · cases h
theorem FU_fstep (hnm : NmOk P) (hse : SeOk P se) (hcall : CallOk P call) (hns : Region.noSelect ops = true) {i : Nat} (ihX : FXOk P se call ops L (.fstep i :: r)) (ih : FUOk P se call ops L r) : FUOk P se call ops L (.fstep i :: r) := by
  intro oL l tk H F A E a w F' A' Q E0 A0 w0 V obj hL hgL hp h hF hR hHb hHS hQ hst hrun
  have hp0 := hp
  have h0 := h
  simp only [planF] at hp
  split at hp
  case h_2 => cases hp
  rename_i hc
  simp only [Bool.and_eq_true, Bool.not_eq_true', decide_eq_true_eq] at hc
  obtain ⟨⟨hne, hready, -⟩, hDi, hDL, hap⟩ := hc
  have hlen := planF_len hp
  have e0 : planLen (.fstep i :: r) = planLen r + 1 := by show 1 + planLen r = _; omega
  rw [e0]
  simp only [drawF] at h
  split at h
  · cases h
  rename_i o hi
  have hap := apart_at hL hi hap
  have sp := Oper.apart_spec hap
  have hselL : ∀ cs b, oL.op ≠ .select cs b := fun cs b => Region.noSelect_spec hns L oL cs b hL
  have n0 : ¬ (relOf (PStep.fstep i :: r) i = true) := by show ¬ (relOf r i = true); rw [hDi]; simp
  have n1 : ¬ (relOf (PStep.fstep i :: r) L = true) := by show ¬ (relOf r L = true); rw [hDL]; simp
  have come : wpOp P ops (NoPanic Q) L (fun a' w' => SH P (H.map (conc E)) w' ∧ wpAnyD P ops (NoPanic Q) (SH P (H.map (conc E))) (relOf (.fstep i :: r)) (planLen r) (l.setIfInBounds L true) a' w') a w := by
    unfold wpOp
    simp only [hL]
    rw [if_pos (by simp [Region.wanted, hgL])]
    refine .inl ?_
    unfold Oper.wp
    rw [hrun w]
    have hlt : w.heap.size < (w.alloc obj).heap.size := by simp
    have := ihX oL l tk H F A E a (w.alloc obj) F' A' Q E0 A0 w0 w.heap.size (V w.heap.size) obj w hL hp0 h0 hF (rep_alloc hR obj) hHb hHS hQ (hst.trans (stp_alloc _ _ _ _ _)) rfl (hrun w)
      (by show (w.heap.push obj)[w.heap.size]? = _; simp) hst.size (fun g o hg he => by have := hR.lt hg; omega)
    have e3 : planLen (.fstep i :: r) - 1 = planLen r := by rw [e0]; omega
    rw [e3] at this
    exact ⟨hHS _ (rep_alloc hR obj), this⟩
  have go : ∀ (A1 : AS) (F1 : Fr) (E' : En) (a' : Act) (w' : World), (∃ u, a' = a.put o.dst u) → drawF P se call ops oL r H F1 A1 = some (F', A') → (∀ w', Rep P E' A1.heap.get A1.nxt w' → SH P (H.map (conc E')) w') → Stp E A.heap.get A.nxt w E' A1.heap.get A1.nxt w' → RF E' A1.nxt F1 a' → Rep P E' A1.heap.get A1.nxt w' →
      SH P (H.map (conc E)) w' ∧ wpAnyD P ops (NoPanic Q) (SH P (H.map (conc E))) (relOf r) (planLen r) (l.setIfInBounds i true) a' w' := by
    rintro A1 F1 E' a' w' ⟨u, rfl⟩ hd hs h1 h2 h3
    have e := conc_ext h1.ext hHb
    have := ih oL (l.setIfInBounds i true) _ H F1 A1 E' (a.put o.dst u) w' F' A' Q E0 A0 w0 V obj hL hgL hp hd h2 h3 (fun q hq => ⟨Nat.lt_of_lt_of_le (hHb q hq).1 h1.le, AV.bd_mono h1.le (hHb q hq).2⟩) hs hQ (hst.trans h1)
      (fun w2 => by rw [execOp_put (ops := ops) oL hselL a o.dst _ sp.2.2]; exact hrun w2)
    rw [e] at this
    exact ⟨by rw [← e]; exact hs w' h3, this⟩
  have main : wpOp P ops (NoPanic Q) i (fun a' w' => SH P (H.map (conc E)) w' ∧ wpAnyD P ops (NoPanic Q) (SH P (H.map (conc E))) (relOf r) (planLen r) (l.setIfInBounds i true) a' w') a w := by
    unfold wpOp
    simp only [hi]
    rw [wanted_eq hF]
    split at h
    · rename_i hw
      rw [hw, if_neg (by simp)]
      split at h
      · rename_i F1 hput
        exact go A F1 E _ w ⟨undef, rfl⟩ h hHS (Stp.refl _ _ _ _) (hF.put hput trivial) hR
      · cases h
    · rename_i hw
      rw [hw, if_pos rfl]
      refine .inl ?_
      split at h
      · rename_i v e hop
        split at h
        · rename_i A1 hA
          split at h
          · rename_i F1 hput
            split at h
            · rename_i hh
              exact op_step hnm hse hcall hop hF hR ⟨A1, F1, hA, hput, fun E' a' w' hu h1 h2 h3 => go A1 F1 E' a' w' hu h (fun w2 hr2 => held_ok hr2 hh) h1 h2 h3⟩
            · cases h
          · cases h
        · cases h
      · rename_i f args hop
        split at h
        · rename_i v A1 hc
          split at h
          · rename_i F1 hput
            split at h
            · rename_i hh
              exact op_step hnm hse hcall hop hF hR ⟨.ret v, A1, hc, F1, hput, fun E' a' w' hu h1 h2 h3 => go A1 F1 E' a' w' hu h (fun w2 hr2 => held_ok hr2 hh) h1 h2 h3⟩
            · cases h
          · cases h
        · cases h
      · cases h
  rcases hready with hready | hready
  all_goals
    refine wpAnyD_all hready (by simp) ?_
    intro j hj
    simp only [List.mem_cons, List.not_mem_nil, or_false] at hj
    rcases hj with rfl | rfl
  · simp only [if_neg n0]; exact main
  · simp only [if_neg n1]; exact come
  · simp only [if_neg n1]; exact come
  · simp only [if_neg n0]; exact main
theorem FU_land (ihX : FXOk P se call ops L (.land :: r)) : FUOk P se call ops L (.land :: r) := by
  intro oL l tk H F A E a w F' A' Q E0 A0 w0 V obj hL hgL hp h hF hR hHb hHS hQ hst hrun
  have hp0 := hp
  simp only [planF] at hp
  split at hp
  case h_2 => cases hp
  rename_i hc
  simp only [Bool.and_eq_true, Bool.not_eq_true', decide_eq_true_eq] at hc
  have e0 : planLen (.land :: r) = planLen r + 1 := by show 1 + planLen r = _; omega
  have e3 : planLen (.land :: r) - 1 = planLen r := by rw [e0]; omega
  rw [e0]
  have n1 : ¬ (relOf (PStep.land :: r) L = true) := by show ¬ (relOf r L = true); rw [hc.2]; simp
  refine wpAnyD_all hc.1 (by simp) ?_
  intro j hj
  simp only [List.mem_singleton] at hj
  subst hj
  simp only [if_neg n1]
  unfold wpOp
  simp only [hL]
  rw [if_pos (by simp [Region.wanted, hgL])]
  refine .inl ?_
  unfold Oper.wp
  rw [hrun w]
  have := ihX oL l tk H F A E a (w.alloc obj) F' A' Q E0 A0 w0 w.heap.size (V w.heap.size) obj w hL hp0 h hF (rep_alloc hR obj) hHb hHS hQ (hst.trans (stp_alloc _ _ _ _ _)) rfl (hrun w)
    (by show (w.heap.push obj)[w.heap.size]? = _; simp) hst.size (fun g o hg he => by have := hR.lt hg; omega)
  rw [e3] at this
  exact ⟨hHS _ (rep_alloc hR obj), this⟩
theorem A_open (hnm : NmOk P) (hse : SeOk P se) {i : Nat} (ih : FUOk P se call ops i r) : AOk P se call ops (.open i :: r) := by
  intro l tk H F A E a w F' A' Q hp h hF hR hHb hS hQ
  simp only [planOk] at hp
  simp only [drawA] at h
  split at h
  · cases h
  rename_i o hi
  split at h
  · cases h
  rename_i hg
  split at h
  case h_2 => cases h
  rename_i v t cs hop
  split at h
  case h_2 => cases h
  rename_i hh
  obtain ⟨hfr, -, -⟩ := fresh_any hnm hse hF.ev hop
  have e0 : planLen (.open i :: r) = planLen r := by show 0 + planLen r = _; omega
  rw [e0]
  exact ih o l tk H F A E a w F' A' Q E A w (fun b => den (E.new A.nxt b 0) v) (.cells (cs.map (den E)).toArray t) hi hg hp h hF hR hHb (fun w' hR' => held_ok hR' hh) hQ (Stp.refl _ _ _ _) hfr
theorem F_none {s : PStep} (h : ∀ (ops : Array Oper) L l tk, planF ops L (s :: r) l tk = false) : FXOk P se call ops L (s :: r) ∧ FUOk P se call ops L (s :: r) :=
  ⟨fun oL l tk H F A E a w F' A' Q E0 A0 w0 β vL obj we hL hp => (by rw [h] at hp; cases hp), fun oL l tk H F A E a w F' A' Q E0 A0 w0 V obj hL hg hp => (by rw [h] at hp; cases hp)⟩
end arms
theorem plan_all (hnm : NmOk P) (hse : SeOk P se) {call : FuncId → List AV → AS → Option (AEnd × AS)} (hcall : CallOk P call) (ops : Array Oper) (hns : Region.noSelect ops = true) :
    ∀ plan : List PStep, AOk P se call ops plan ∧ ∀ L, FXOk P se call ops L plan ∧ FUOk P se call ops L plan
  | [] => ⟨A_nil hnm hse hcall ops hns, fun L => ⟨fun oL l tk H F A E a w F' A' Q E0 A0 w0 β vL obj we hL hp => by simp [planF] at hp, fun oL l tk H F A E a w F' A' Q E0 A0 w0 V obj hL hg hp => by simp [planF] at hp⟩⟩
  | s :: r => by
    have ih := plan_all hnm hse hcall ops hns r
    cases s with
    | take i => exact ⟨A_take hnm hse hcall ops hns i r ih.1, fun L => ⟨FX_take hnm hse hns (ih.2 L).1, FU_take hnm hse hns (ih.2 L).2⟩⟩
    | step i => exact ⟨A_step hnm hse hcall ops hns i r ih.1, fun L => F_none (fun _ _ _ _ => by simp [planF])⟩
    | pair i j => exact ⟨A_pair hnm hse hcall ops hns i j r ih.1, fun L => F_none (fun _ _ _ _ => by simp [planF])⟩
    | rel i => exact ⟨A_rel hnm hse hcall ops hns i r ih.1, fun L => F_none (fun _ _ _ _ => by simp [planF])⟩
    | «open» i => exact ⟨A_open hnm hse (ih.2 i).2, fun L => F_none (fun _ _ _ _ => by simp [planF])⟩
    | fstep i => exact ⟨fun l tk H F A E a w F' A' Q hp => by simp [planOk] at hp, fun L =>
        have hX := FX_fstep hnm hse hcall hns (ih.2 L).1
        ⟨hX, FU_fstep hnm hse hcall hns hX (ih.2 L).2⟩⟩
    | land => exact ⟨fun l tk H F A E a w F' A' Q hp => by simp [planOk] at hp, fun L =>
        have hX := FX_land (L := L) hnm hse ih.1
        ⟨hX, FU_land hX⟩⟩
theorem drawA_ok (hnm : NmOk P) (hse : SeOk P se) {call : FuncId → List AV → AS → Option (AEnd × AS)} (hcall : CallOk P call) (ops : Array Oper) (hns : Region.noSelect ops = true) (plan : List PStep) : AOk P se call ops plan :=
  (plan_all hnm hse hcall ops hns plan).1
end
end Go.Proofs.YtgooihjcaoajnaaGreat.Ev
