import PyProof.Rows.All
import HandS.Words
import Wide.All
import OpenK.AllK
import Wide.FinOn
import KE.KStateDown
import HandS.HeadHook4
import HandS.ExcField
import HandS.ExcSuper
import HandS.Head4
import Open.SpecLaws
import KE.OsGo
import HandS.ForSpec
import HandS.TryMany
import HandS.WideBits
import HandS.NoneIn
import HandS.Conv
import HandS.Iter
import HandS.Comp
import HandS.Zip
import HandS.Small
import HandS.Style
import HandS.Defaults
import HandS.ExcInit
import PyWrrvfp
import PySem.Challenge.RW_floathalf_s01_answers
section
set_option linter.all false
set_option Elab.async false
/-! The small language: values, the machine's record, codes, and what must hold so that a code gives what is wanted. Core Lean alone. -/
namespace FH

/-- a value: a tuple, a list of ints; the one machine -/
inductive PV where
  | non | bl (b : Bool) | int (i : Int) | tup (l : List Int) | lst (l : List Int) | mach
inductive Out where
  | ok (v : PV) | flt (c w : Int)
structure M where
  x : List Int
  f : List Int
  frm : Int
  fflags : Int
  pc : Int
  words : List Int
  mem : List Int
  cause : Int
  value : Int
  gen : Nat
inductive Fld where
  | frm | fflags | pc | cause | value
inductive Part where
  | x | f | mem
def M.fld (m : M) : Fld → Int
  | .frm => m.frm
  | .fflags => m.fflags
  | .pc => m.pc
  | .cause => m.cause
  | .value => m.value
def M.put (m : M) : Fld → Int → M
  | .frm, v => { m with frm := v }
  | .fflags, v => { m with fflags := v }
  | .pc, v => { m with pc := v }
  | .cause, v => { m with cause := v }
  | .value, v => { m with value := v }
def M.part (m : M) : Part → List Int
  | .x => m.x
  | .f => m.f
  | .mem => m.mem
def M.lay (m : M) : Part → List Int → M
  | .x, l => { m with x := l }
  | .f, l => { m with f := l }
  | .mem, l => { m with mem := l }

def iNot (x : Int) : Int := -x - 1
def iAnd (x y : Int) : Int :=
  match decide (0 ≤ x), decide (0 ≤ y) with
  | true, true => ((x.toNat &&& y.toNat : Nat) : Int)
  | true, false => x - ((x.toNat &&& (iNot y).toNat : Nat) : Int)
  | false, true => y - ((y.toNat &&& (iNot x).toNat : Nat) : Int)
  | false, false => iNot (((iNot x).toNat ||| (iNot y).toNat : Nat) : Int)
def iOr (x y : Int) : Int := iNot (iAnd (iNot x) (iNot y))
def iXor (x y : Int) : Int := iOr x y - iAnd x y
def ibits (x : Int) : Nat := if x == 0 then 0 else x.natAbs.log2 + 1

inductive Op2 where
  | add | sub | mul | fdiv | mod | pow | shl | shr | and | or | xor
inductive Cp where
  | eq | ne | lt | le | gt | ge

mutual
inductive Ex where
  | var (i : Nat)
  | int (i : Int)
  | bl (b : Bool)
  | con (k : Nat)
  | bin (o : Op2) (a b : Ex)
  | neg (a : Ex)
  | inv (a : Ex)
  | not (a : Ex)
  | cmp (o : Cp) (a b : Ex)
  | chn (o p : Cp) (a b c : Ex)
  | isin (n : Bool) (a : Ex) (l : Exs)
  | indic (a : Ex) (d : Nat)
  | diget (d : Nat) (a : Ex)
  | conj (l : Exs)
  | disj (l : Exs)
  | ite (c a b : Ex)
  | call (j : Nat) (l : Exs)
  | meth (j : Nat) (o : Ex) (l : Exs)
  | meth0 (j : Nat) (o : Ex)
  | bits (a : Ex)
  | max2 (a b : Ex)
  | min2 (a b : Ex)
  | abs (a : Ex)
  | dvm (a b : Ex)
  | len (a : Ex)
  | tolist (a : Ex)
  | ctup (t : Nat) (a : Ex)
  | at_ (a i : Ex)
  | from_ (a : Ex) (k : Nat)
  | cutl (a lo hi : Ex)
  | tup (l : Exs)
  | lst (l : Exs)
  | cat (a b : Ex)
  | fld (f : Fld) (o : Ex)
  | part (p : Part) (o i : Ex)
  | wlen (o : Ex)
  | word (o i : Ex)
  | pcut (o lo hi : Ex)
inductive Exs where
  | nil
  | cons (a : Ex) (l : Exs)
end
mutual
inductive St where
  | set (i : Nat) (e : Ex)
  | unpack (is : List Nat) (e : Ex)
  | setF (f : Fld) (o e : Ex)
  | setP (p : Part) (o i e : Ex)
  | setW (o e : Ex)
  | ite (c : Ex) (a b : Sts)
  | ret (e : Ex)
  | drop (e : Ex)
  | fault (c v : Ex)
  | for_ (i : Nat) (n : Ex) (b : Sts)
  | fort (i : Nat) (e : Ex) (b : Sts)
  | enum_ (i j : Nat) (e : Ex) (b : Sts)
  | while_ (c : Ex) (b : Sts)
inductive Sts where
  | nil
  | cons (a : St) (l : Sts)
end

/-- a def: what it asks of its arguments, what it answers and leaves -/
structure Def where
  pre : List PV → M → Prop
  fn : List PV → M → Out × M
/-- the program's constants and defs -/
structure Tab where
  con : Nat → Int
  ctup : Nat → List Int
  dict : Nat → List (Int × PV)
  fn : Nat → Def

abbrev Env := List (Option PV)
abbrev PQ := PV → M → Prop
abbrev FQ := Int → Int → M → Prop
abbrev NQ := Env → M → Prop

def op2 (o : Op2) (x y : PV) (Q : PV → Prop) : Prop := match x, y with
  | .int i, .int j => (match o with
    | .add => Q (.int (i + j))
    | .sub => Q (.int (i - j))
    | .mul => (ibits i : Int) + (ibits j : Int) ≤ 134217728 ∧ Q (.int (i * j))
    | .fdiv => (0 < j ∧ j.natAbs.log2 < 9000) ∧ Q (.int (i / j))
    | .mod => 0 < j ∧ Q (.int (i % j))
    | .pow => (0 ≤ j ∧ j ≤ 1000000 ∧ i.natAbs < 2 ^ 64) ∧ Q (.int (i ^ j.toNat))
    | .shl => (0 ≤ j ∧ (ibits i : Int) + j ≤ 134217728) ∧ Q (.int (i * 2 ^ j.toNat))
    | .shr => 0 ≤ j ∧ Q (.int (i / 2 ^ j.toNat))
    | .and => Q (.int (iAnd i j))
    | .or => Q (.int (iOr i j))
    | .xor => Q (.int (iXor i j)))
  | _, _ => False
def cp2 (o : Cp) (x y : PV) (Q : Bool → Prop) : Prop := match x, y with
  | .int i, .int j => (match o with
    | .eq => Q (decide (i = j))
    | .ne => Q (!decide (i = j))
    | .lt => Q (decide (i < j))
    | .le => Q (decide (i ≤ j))
    | .gt => Q (decide (j < i))
    | .ge => Q (decide (j ≤ i)))
  | .bl i, .bl j => (match o with
    | .eq => Q (decide (i = j))
    | .ne => Q (!decide (i = j))
    | _ => False)
  | _, _ => False
def intsOf : List PV → Option (List Int)
  | [] => some []
  | .int i :: r => (intsOf r).map fun l => i :: l
  | _ :: _ => none
def dig : List (Int × PV) → Int → Option PV
  | [], _ => none
  | (k, v) :: r, i => if k = i then some v else dig r i
def onInt (x : PV) (Q : Int → Prop) : Prop := match x with
  | .int i => Q i
  | _ => False
def onBl (x : PV) (Q : Bool → Prop) : Prop := match x with
  | .bl b => Q b
  | _ => False
def onSeq (x : PV) (Q : List Int → Prop) : Prop := match x with
  | .tup l => Q l
  | .lst l => Q l
  | _ => False
def onLst (x : PV) (Q : List Int → Prop) : Prop := match x with
  | .lst l => Q l
  | _ => False
def onTup (x : PV) (Q : List Int → Prop) : Prop := match x with
  | .tup l => Q l
  | _ => False
def onMach (x : PV) (Q : Prop) : Prop := match x with
  | .mach => Q
  | _ => False
def onInts (vs : List PV) (Q : List Int → Prop) : Prop := match intsOf vs with
  | some l => Q l
  | none => False
def onSome {α : Type} (o : Option α) (Q : α → Prop) : Prop := match o with
  | some v => Q v
  | none => False
def atQ (l : List Int) (i : Int) (Q : PV → Prop) : Prop := (0 ≤ i ∧ i < l.length) ∧ Q (.int (l.getD i.toNat 0))
def cutI (l : List Int) (lo hi : Int) : List Int := (l.drop lo.toNat).take (hi.toNat - lo.toNat)
def callQ (d : Def) (F : FQ) (vs : List PV) (m : M) (Q : PQ) : Prop := d.pre vs m ∧ (match d.fn vs m with
  | (.ok v, m') => Q v m'
  | (.flt c w, m') => F c w m')
/-- the slot i -/
def getS (s : Env) (i : Nat) : Option PV := match s[i]? with
  | some (some v) => some v
  | _ => none
/-- a[k:] of a tuple, of a list -/
def fromQ (x : PV) (k : Nat) (Q : PV → Prop) : Prop := match x with
  | .tup l => (1 ≤ k ∧ k ≤ l.length) ∧ Q (.tup (l.drop k))
  | .lst l => (1 ≤ k ∧ k ≤ l.length) ∧ Q (.lst (l.drop k))
  | _ => False

section
variable (T : Tab) (F : FQ)
mutual
def ev : Ex → Env → M → PQ → Prop
  | .var i, s, m, Q => onSome (getS s i) fun v => Q v m
  | .int i, _, m, Q => Q (.int i) m
  | .bl b, _, m, Q => Q (.bl b) m
  | .con k, _, m, Q => Q (.int (T.con k)) m
  | .bin o a b, s, m, Q => ev a s m fun x m1 => ev b s m1 fun y m2 => op2 o x y fun z => Q z m2
  | .neg a, s, m, Q => ev a s m fun x m1 => onInt x fun i => Q (.int (-i)) m1
  | .inv a, s, m, Q => ev a s m fun x m1 => onInt x fun i => Q (.int (iNot i)) m1
  | .not a, s, m, Q => ev a s m fun x m1 => onBl x fun b => Q (.bl (!b)) m1
  | .cmp o a b, s, m, Q => ev a s m fun x m1 => ev b s m1 fun y m2 => cp2 o x y fun z => Q (.bl z) m2
  | .chn o p a b c, s, m, Q => ev a s m fun x m1 => ev b s m1 fun y m2 => cp2 o x y fun k => if k = true then ev c s m2 (fun z m3 => cp2 p y z fun k2 => Q (.bl k2) m3) else Q (.bl false) m2
  | .isin n a l, s, m, Q => ev a s m fun x m1 => evs l s m1 fun vs m2 => onInt x fun i => onInts vs fun ns => Q (.bl (if n = true then !ns.contains i else ns.contains i)) m2
  | .indic a d, s, m, Q => ev a s m fun x m1 => onInt x fun i => Q (.bl (dig (T.dict d) i).isSome) m1
  | .diget d a, s, m, Q => ev a s m fun x m1 => onInt x fun i => onSome (dig (T.dict d) i) fun v => Q v m1
  | .conj l, s, m, Q => evAnd l s m Q
  | .disj l, s, m, Q => evOr l s m Q
  | .ite c a b, s, m, Q => ev c s m fun x m1 => onBl x fun k => if k = true then ev a s m1 Q else ev b s m1 Q
  | .call j l, s, m, Q => evs l s m fun vs m1 => callQ (T.fn j) F vs m1 Q
  | .meth j o l, s, m, Q => ev o s m fun x m1 => onMach x (evs l s m1 fun vs m2 => callQ (T.fn j) F (x :: vs) m2 Q)
  | .meth0 j o, s, m, Q => ev o s m fun x m1 => onMach x (callQ (T.fn j) F [x] m1 Q)
  | .bits a, s, m, Q => ev a s m fun x m1 => onInt x fun i => Q (.int (ibits i)) m1
  | .max2 a b, s, m, Q => ev a s m fun x m1 => ev b s m1 fun y m2 => onInt x fun i => onInt y fun j => Q (.int (if i < j then j else i)) m2
  | .min2 a b, s, m, Q => ev a s m fun x m1 => ev b s m1 fun y m2 => onInt x fun i => onInt y fun j => Q (.int (if j < i then j else i)) m2
  | .abs a, s, m, Q => ev a s m fun x m1 => onInt x fun i => Q (.int (if i < 0 then -i else i)) m1
  | .dvm a b, s, m, Q => ev a s m fun x m1 => ev b s m1 fun y m2 => onInt x fun i => onInt y fun j => (0 < j ∧ ibits i ≤ ibits j + 4000) ∧ Q (.tup [i / j, i % j]) m2
  | .len a, s, m, Q => ev a s m fun x m1 => onSeq x fun l => Q (.int l.length) m1
  | .tolist a, s, m, Q => ev a s m fun x m1 => onTup x fun l => Q (.lst l) m1
  | .ctup t a, s, m, Q => ev a s m fun x m1 => onInt x fun i => atQ (T.ctup t) i fun v => Q v m1
  | .at_ a i, s, m, Q => ev a s m fun x m1 => ev i s m1 fun y m2 => onSeq x fun l => onInt y fun i => atQ l i fun v => Q v m2
  | .from_ a k, s, m, Q => ev a s m fun x m1 => fromQ x k fun v => Q v m1
  | .cutl a lo hi, s, m, Q => ev a s m fun x m1 => onLst x fun l => ev lo s m1 fun y m2 => onInt y fun i => ev hi s m2 fun z m3 => onInt z fun j => (0 ≤ i ∧ 0 ≤ j) ∧ Q (.lst (cutI l i j)) m3
  | .tup l, s, m, Q => evs l s m fun vs m1 => onInts vs fun ns => Q (.tup ns) m1
  | .lst l, s, m, Q => evs l s m fun vs m1 => onInts vs fun ns => Q (.lst ns) m1
  | .cat a b, s, m, Q => ev a s m fun x m1 => ev b s m1 fun y m2 => onLst x fun l => onLst y fun r => l.length + r.length ≤ 1000000 ∧ Q (.lst (l ++ r)) m2
  | .fld f o, s, m, Q => ev o s m fun x m1 => onMach x (Q (.int (m1.fld f)) m1)
  | .part p o i, s, m, Q => ev o s m fun x m1 => onMach x (ev i s m1 fun y m2 => onInt y fun i => m2.gen = m1.gen ∧ atQ (m2.part p) i fun v => Q v m2)
  | .wlen o, s, m, Q => ev o s m fun x m1 => onMach x (Q (.int m1.words.length) m1)
  | .word o i, s, m, Q => ev o s m fun x m1 => onMach x (ev i s m1 fun y m2 => onInt y fun i => atQ m1.words i fun v => Q v m2)
  | .pcut o lo hi, s, m, Q => ev o s m fun x m1 => onMach x (ev lo s m1 fun y m2 => onInt y fun i => ev hi s m2 fun z m3 => onInt z fun j => (0 ≤ i ∧ 0 ≤ j) ∧ (m3.gen = m1.gen ∧ Q (.lst (cutI m3.mem i j)) m3))
def evs : Exs → Env → M → (List PV → M → Prop) → Prop
  | .nil, _, m, Q => Q [] m
  | .cons a l, s, m, Q => ev a s m fun x m1 => evs l s m1 fun vs m2 => Q (x :: vs) m2
def evAnd : Exs → Env → M → PQ → Prop
  | .nil, _, _, _ => False
  | .cons a l, s, m, Q => match l with
    | .nil => ev a s m fun x m1 => onBl x fun b => Q (.bl b) m1
    | .cons c r => ev a s m fun x m1 => onBl x fun b => if b = true then evAnd (.cons c r) s m1 Q else Q (.bl false) m1
def evOr : Exs → Env → M → PQ → Prop
  | .nil, _, _, _ => False
  | .cons a l, s, m, Q => match l with
    | .nil => ev a s m fun x m1 => onBl x fun b => Q (.bl b) m1
    | .cons c r => ev a s m fun x m1 => onBl x fun b => if b = true then Q (.bl true) m1 else evOr (.cons c r) s m1 Q
end

def setAll : List Nat → List Int → Env → Env
  | i :: is, v :: vs, s => setAll is vs (s.set i (some (.int v)))
  | _, _, s => s
mutual
def ex : St → Env → M → NQ → PQ → Prop
  | .set i e, s, m, N, _ => ev T F e s m fun x m1 => N (s.set i (some x)) m1
  | .unpack is e, s, m, N, _ => ev T F e s m fun x m1 => onSeq x fun l => l.length = is.length ∧ N (setAll is l s) m1
  | .setF f o e, s, m, N, _ => ev T F e s m fun x m1 => ev T F o s m1 fun y m2 => onMach y (onInt x fun i => N s (m2.put f i))
  | .setP p o i e, s, m, N, _ => ev T F e s m fun x m1 => ev T F o s m1 fun y m2 => onMach y (ev T F i s m2 fun z m3 => onInt x fun v => onInt z fun i => (m3.gen = m2.gen ∧ 0 ≤ i ∧ i < (m3.part p).length) ∧ N s (m3.lay p ((m3.part p).set i.toNat v)))
  | .setW o e, s, m, N, _ => ev T F e s m fun x m1 => ev T F o s m1 fun y m2 => onMach y (onLst x fun l => N s { m2 with words := l })
  | .ite c a b, s, m, N, R => ev T F c s m fun x m1 => onBl x fun k => if k = true then exs a s m1 N R else exs b s m1 N R
  | .ret e, s, m, _, R => ev T F e s m R
  | .drop e, s, m, N, _ => ev T F e s m fun _ m1 => N s m1
  | .fault c v, s, m, _, _ => ev T F c s m fun x m1 => ev T F v s m1 fun y m2 => onInt x fun i => onInt y fun j => F i j m2
  | .for_ i n b, s, m, N, R => ev T F n s m fun x m1 => onInt x fun k => (-4611686018427387904 ≤ k ∧ k < 4611686018427387904) ∧ ∃ W : Nat → Env → M → Prop, W 0 s m1 ∧ ∀ t s m, W t s m → if t < k.toNat then exs b (s.set i (some (.int t))) m (W (t + 1)) R else N s m
  | .fort i e b, s, m, N, R => ev T F e s m fun x m1 => onTup x fun l => ∃ W : Nat → Env → M → Prop, W 0 s m1 ∧ ∀ t s m, W t s m → if t < l.length then exs b (s.set i (some (.int (l.getD t 0)))) m (W (t + 1)) R else N s m
  | .enum_ i j e b, s, m, N, R => ev T F e s m fun x m1 => onLst x fun l => ∃ W : Nat → Env → M → Prop, W 0 s m1 ∧ ∀ t s m, W t s m → if t < l.length then exs b ((s.set i (some (.int t))).set j (some (.int (l.getD t 0)))) m (W (t + 1)) R else N s m
  | .while_ c b, s, m, N, R => ∃ W : Nat → Env → M → Prop, (∃ n, W n s m) ∧ ∀ n s m, W n s m → ev T F c s m fun x m1 => onBl x fun k => if k = true then exs b s m1 (fun s' m' => ∃ n', n' < n ∧ W n' s' m') R else N s m1
def exs : Sts → Env → M → NQ → PQ → Prop
  | .nil, s, m, N, _ => N s m
  | .cons a l, s, m, N, R => ex a s m (fun s' m' => exs l s' m' N R) R
end
end

/-! ### monotone -/
section
variable {T : Tab} {F : FQ}
theorem op2_mono {o : Op2} {x y : PV} {Q Q' : PV → Prop} (h : ∀ v, Q v → Q' v) (q : op2 o x y Q) : op2 o x y Q' := by
  cases x <;> cases y <;> first | exact q.elim | (cases o <;> first | exact h _ q | exact ⟨q.1, h _ q.2⟩)
theorem cp2_mono {o : Cp} {x y : PV} {Q Q' : Bool → Prop} (h : ∀ v, Q v → Q' v) (q : cp2 o x y Q) : cp2 o x y Q' := by
  cases x <;> cases y <;> first | exact q.elim | (cases o <;> first | exact h _ q | exact q.elim)
theorem onInt_mono {x : PV} {Q Q' : Int → Prop} (h : ∀ v, Q v → Q' v) (q : onInt x Q) : onInt x Q' := by
  cases x <;> first | exact h _ q | exact q.elim
theorem onBl_mono {x : PV} {Q Q' : Bool → Prop} (h : ∀ v, Q v → Q' v) (q : onBl x Q) : onBl x Q' := by
  cases x <;> first | exact h _ q | exact q.elim
theorem onSeq_mono {x : PV} {Q Q' : List Int → Prop} (h : ∀ v, Q v → Q' v) (q : onSeq x Q) : onSeq x Q' := by
  cases x <;> first | exact h _ q | exact q.elim
theorem onLst_mono {x : PV} {Q Q' : List Int → Prop} (h : ∀ v, Q v → Q' v) (q : onLst x Q) : onLst x Q' := by
  cases x <;> first | exact h _ q | exact q.elim
theorem onTup_mono {x : PV} {Q Q' : List Int → Prop} (h : ∀ v, Q v → Q' v) (q : onTup x Q) : onTup x Q' := by
  cases x <;> first | exact h _ q | exact q.elim
theorem onMach_mono {x : PV} {Q Q' : Prop} (h : Q → Q') (q : onMach x Q) : onMach x Q' := by
  cases x <;> first | exact h q | exact q.elim
theorem onInts_mono {x : List PV} {Q Q' : List Int → Prop} (h : ∀ v, Q v → Q' v) (q : onInts x Q) : onInts x Q' := by
  unfold onInts at *
  split <;> rename_i e <;> rw [e] at q
  · exact h _ q
  · exact q
theorem onSome_mono {α : Type} {x : Option α} {Q Q' : α → Prop} (h : ∀ v, Q v → Q' v) (q : onSome x Q) : onSome x Q' := by
  cases x <;> first | exact h _ q | exact q.elim
theorem atQ_mono {l : List Int} {i : Int} {Q Q' : PV → Prop} (h : ∀ v, Q v → Q' v) (q : atQ l i Q) : atQ l i Q' := ⟨q.1, h _ q.2⟩
theorem fromQ_mono {x : PV} {k : Nat} {Q Q' : PV → Prop} (h : ∀ v, Q v → Q' v) (q : fromQ x k Q) : fromQ x k Q' := by
  cases x <;> first | exact ⟨q.1, h _ q.2⟩ | exact q.elim
theorem callQ_mono {d : Def} {vs : List PV} {m : M} {Q Q' : PQ} (h : ∀ v m, Q v m → Q' v m) (q : callQ d F vs m Q) : callQ d F vs m Q' := by
  refine ⟨q.1, ?_⟩
  have q2 := q.2
  split <;> rename_i e <;> rw [e] at q2
  · exact h _ _ q2
  · exact q2
theorem ite_mono {b : Bool} {A B A' B' : Prop} (h1 : A → A') (h2 : B → B') (q : if b = true then A else B) : if b = true then A' else B' := by
  cases b
  · exact h2 q
  · exact h1 q
mutual
theorem ev_mono : ∀ (e : Ex) {s : Env} {m : M} {Q Q' : PQ}, (∀ v m, Q v m → Q' v m) → ev T F e s m Q → ev T F e s m Q'
  | .var _, _, _, _, _, h, q => by unfold ev at *; exact onSome_mono (fun v => h v _) q
  | .int _, _, _, _, _, h, q => by unfold ev at *; exact h _ _ q
  | .bl _, _, _, _, _, h, q => by unfold ev at *; exact h _ _ q
  | .con _, _, _, _, _, h, q => by unfold ev at *; exact h _ _ q
  | .bin _ a b, _, _, _, _, h, q => by unfold ev at *; exact ev_mono a (fun _ _ => ev_mono b fun _ _ => op2_mono fun z => h z _) q
  | .neg a, _, _, _, _, h, q => by unfold ev at *; exact ev_mono a (fun _ _ => onInt_mono fun _ => h _ _) q
  | .inv a, _, _, _, _, h, q => by unfold ev at *; exact ev_mono a (fun _ _ => onInt_mono fun _ => h _ _) q
  | .not a, _, _, _, _, h, q => by unfold ev at *; exact ev_mono a (fun _ _ => onBl_mono fun _ => h _ _) q
  | .cmp _ a b, _, _, _, _, h, q => by unfold ev at *; exact ev_mono a (fun _ _ => ev_mono b fun _ _ => cp2_mono fun z => h _ _) q
  | .chn _ _ a b c, _, _, _, _, h, q => by unfold ev at *; exact ev_mono a (fun _ _ => ev_mono b fun _ _ => cp2_mono fun z => ite_mono (ev_mono c fun _ _ => cp2_mono fun _ => h _ _) (h _ _)) q
  | .isin _ a l, _, _, _, _, h, q => by unfold ev at *; exact ev_mono a (fun _ _ => evs_mono l fun _ _ => onInt_mono fun _ => onInts_mono fun _ => h _ _) q
  | .indic a _, _, _, _, _, h, q => by unfold ev at *; exact ev_mono a (fun _ _ => onInt_mono fun _ => h _ _) q
  | .diget _ a, _, _, _, _, h, q => by unfold ev at *; exact ev_mono a (fun _ _ => onInt_mono fun _ => onSome_mono fun _ => h _ _) q
  | .conj l, _, _, _, _, h, q => by unfold ev at *; exact evAnd_mono l h q
  | .disj l, _, _, _, _, h, q => by unfold ev at *; exact evOr_mono l h q
  | .ite c a b, _, _, _, _, h, q => by unfold ev at *; exact ev_mono c (fun _ _ => onBl_mono fun _ => ite_mono (ev_mono a h) (ev_mono b h)) q
  | .call _ l, _, _, _, _, h, q => by unfold ev at *; exact evs_mono l (fun _ _ => callQ_mono h) q
  | .meth _ o l, _, _, _, _, h, q => by unfold ev at *; exact ev_mono o (fun _ _ => onMach_mono (evs_mono l fun _ _ => callQ_mono h)) q
  | .meth0 _ o, _, _, _, _, h, q => by unfold ev at *; exact ev_mono o (fun _ _ => onMach_mono (callQ_mono h)) q
  | .bits a, _, _, _, _, h, q => by unfold ev at *; exact ev_mono a (fun _ _ => onInt_mono fun _ => h _ _) q
  | .max2 a b, _, _, _, _, h, q => by unfold ev at *; exact ev_mono a (fun _ _ => ev_mono b fun _ _ => onInt_mono fun _ => onInt_mono fun _ => h _ _) q
  | .min2 a b, _, _, _, _, h, q => by unfold ev at *; exact ev_mono a (fun _ _ => ev_mono b fun _ _ => onInt_mono fun _ => onInt_mono fun _ => h _ _) q
  | .abs a, _, _, _, _, h, q => by unfold ev at *; exact ev_mono a (fun _ _ => onInt_mono fun _ => h _ _) q
  | .dvm a b, _, _, _, _, h, q => by unfold ev at *; exact ev_mono a (fun _ _ => ev_mono b fun _ _ => onInt_mono fun _ => onInt_mono fun _ q => ⟨q.1, h _ _ q.2⟩) q
  | .len a, _, _, _, _, h, q => by unfold ev at *; exact ev_mono a (fun _ _ => onSeq_mono fun _ => h _ _) q
  | .tolist a, _, _, _, _, h, q => by unfold ev at *; exact ev_mono a (fun _ _ => onTup_mono fun _ => h _ _) q
  | .ctup _ a, _, _, _, _, h, q => by unfold ev at *; exact ev_mono a (fun _ _ => onInt_mono fun _ => atQ_mono fun _ => h _ _) q
  | .at_ a i, _, _, _, _, h, q => by unfold ev at *; exact ev_mono a (fun _ _ => ev_mono i fun _ _ => onSeq_mono fun _ => onInt_mono fun _ => atQ_mono fun _ => h _ _) q
  | .from_ a _, _, _, _, _, h, q => by unfold ev at *; exact ev_mono a (fun _ _ => fromQ_mono fun _ => h _ _) q
  | .cutl a lo hi, _, _, _, _, h, q => by unfold ev at *; exact ev_mono a (fun _ _ => onLst_mono fun _ => ev_mono lo fun _ _ => onInt_mono fun _ => ev_mono hi fun _ _ => onInt_mono fun _ q => ⟨q.1, h _ _ q.2⟩) q
  | .tup l, _, _, _, _, h, q => by unfold ev at *; exact evs_mono l (fun _ _ => onInts_mono fun _ => h _ _) q
  | .lst l, _, _, _, _, h, q => by unfold ev at *; exact evs_mono l (fun _ _ => onInts_mono fun _ => h _ _) q
  | .cat a b, _, _, _, _, h, q => by unfold ev at *; exact ev_mono a (fun _ _ => ev_mono b fun _ _ => onLst_mono fun _ => onLst_mono fun _ q => ⟨q.1, h _ _ q.2⟩) q
  | .fld _ o, _, _, _, _, h, q => by unfold ev at *; exact ev_mono o (fun _ _ => onMach_mono (h _ _)) q
  | .part _ o i, _, _, _, _, h, q => by unfold ev at *; exact ev_mono o (fun _ _ => onMach_mono (ev_mono i fun _ _ => onInt_mono fun _ q => ⟨q.1, atQ_mono (fun _ => h _ _) q.2⟩)) q
  | .wlen o, _, _, _, _, h, q => by unfold ev at *; exact ev_mono o (fun _ _ => onMach_mono (h _ _)) q
  | .word o i, _, _, _, _, h, q => by unfold ev at *; exact ev_mono o (fun _ _ => onMach_mono (ev_mono i fun _ _ => onInt_mono fun _ => atQ_mono fun _ => h _ _)) q
  | .pcut o lo hi, _, _, _, _, h, q => by unfold ev at *; exact ev_mono o (fun _ _ => onMach_mono (ev_mono lo fun _ _ => onInt_mono fun _ => ev_mono hi fun _ _ => onInt_mono fun _ q => ⟨q.1, q.2.1, h _ _ q.2.2⟩)) q
theorem evs_mono : ∀ (l : Exs) {s : Env} {m : M} {Q Q' : List PV → M → Prop}, (∀ v m, Q v m → Q' v m) → evs T F l s m Q → evs T F l s m Q'
  | .nil, _, _, _, _, h, q => by unfold evs at *; exact h _ _ q
  | .cons a l, _, _, _, _, h, q => by unfold evs at *; exact ev_mono a (fun _ _ => evs_mono l fun _ _ => h _ _) q
theorem evAnd_mono : ∀ (l : Exs) {s : Env} {m : M} {Q Q' : PQ}, (∀ v m, Q v m → Q' v m) → evAnd T F l s m Q → evAnd T F l s m Q'
  | .nil, _, _, _, _, h, q => by unfold evAnd at q; exact q.elim
  | .cons a .nil, _, _, _, _, h, q => by unfold evAnd at *; exact ev_mono a (fun _ _ => onBl_mono fun _ => h _ _) q
  | .cons a (.cons c r), _, _, _, _, h, q => by unfold evAnd at *; exact ev_mono a (fun _ _ => onBl_mono fun _ => ite_mono (evAnd_mono (.cons c r) h) (h _ _)) q
theorem evOr_mono : ∀ (l : Exs) {s : Env} {m : M} {Q Q' : PQ}, (∀ v m, Q v m → Q' v m) → evOr T F l s m Q → evOr T F l s m Q'
  | .nil, _, _, _, _, h, q => by unfold evOr at q; exact q.elim
  | .cons a .nil, _, _, _, _, h, q => by unfold evOr at *; exact ev_mono a (fun _ _ => onBl_mono fun _ => h _ _) q
  | .cons a (.cons c r), _, _, _, _, h, q => by unfold evOr at *; exact ev_mono a (fun _ _ => onBl_mono fun _ => ite_mono (h _ _) (evOr_mono (.cons c r) h)) q
end
mutual
theorem ex_mono : ∀ (c : St) {s : Env} {m : M} {N N' : NQ} {R R' : PQ}, (∀ s m, N s m → N' s m) → (∀ v m, R v m → R' v m) → ex T F c s m N R → ex T F c s m N' R'
  | .set _ e, _, _, _, _, _, _, h, _, q => by unfold ex at *; exact ev_mono e (fun _ _ => h _ _) q
  | .unpack _ e, _, _, _, _, _, _, h, _, q => by unfold ex at *; exact ev_mono e (fun _ _ => onSeq_mono fun _ q => ⟨q.1, h _ _ q.2⟩) q
  | .setF _ o e, _, _, _, _, _, _, h, _, q => by unfold ex at *; exact ev_mono e (fun _ _ => ev_mono o fun _ _ => onMach_mono (onInt_mono fun _ => h _ _)) q
  | .setP _ o i e, _, _, _, _, _, _, h, _, q => by unfold ex at *; exact ev_mono e (fun _ _ => ev_mono o fun _ _ => onMach_mono (ev_mono i fun _ _ => onInt_mono fun _ => onInt_mono fun _ q => ⟨q.1, h _ _ q.2⟩)) q
  | .setW o e, _, _, _, _, _, _, h, _, q => by unfold ex at *; exact ev_mono e (fun _ _ => ev_mono o fun _ _ => onMach_mono (onLst_mono fun _ => h _ _)) q
  | .ite c a b, _, _, _, _, _, _, h, k, q => by unfold ex at *; exact ev_mono c (fun _ _ => onBl_mono fun _ => ite_mono (exs_mono a h k) (exs_mono b h k)) q
  | .ret e, _, _, _, _, _, _, _, k, q => by unfold ex at *; exact ev_mono e k q
  | .drop e, _, _, _, _, _, _, h, _, q => by unfold ex at *; exact ev_mono e (fun _ _ => h _ _) q
  | .fault _ _, _, _, _, _, _, _, _, _, q => by unfold ex at *; exact q
  | .for_ _ n b, _, _, _, _, _, _, h, k, q => by
    unfold ex at *
    refine ev_mono n (fun _ _ => onInt_mono fun j q => ⟨q.1, ?_⟩) q
    obtain ⟨W, w0, t⟩ := q.2
    refine ⟨W, w0, fun t1 s1 m1 w => ?_⟩
    have q := t t1 s1 m1 w
    by_cases c : t1 < j.toNat
    · rw [if_pos c] at q ⊢
      exact exs_mono b (fun _ _ x => x) k q
    · rw [if_neg c] at q ⊢
      exact h _ _ q
  | .fort _ e b, _, _, _, _, _, _, h, k, q => by
    unfold ex at *
    refine ev_mono e (fun _ _ => onTup_mono fun j q => ?_) q
    obtain ⟨W, w0, t⟩ := q
    refine ⟨W, w0, fun t1 s1 m1 w => ?_⟩
    have q := t t1 s1 m1 w
    by_cases c : t1 < j.length
    · rw [if_pos c] at q ⊢
      exact exs_mono b (fun _ _ x => x) k q
    · rw [if_neg c] at q ⊢
      exact h _ _ q
  | .enum_ _ _ e b, _, _, _, _, _, _, h, k, q => by
    unfold ex at *
    refine ev_mono e (fun _ _ => onLst_mono fun j q => ?_) q
    obtain ⟨W, w0, t⟩ := q
    refine ⟨W, w0, fun t1 s1 m1 w => ?_⟩
    have q := t t1 s1 m1 w
    by_cases c : t1 < j.length
    · rw [if_pos c] at q ⊢
      exact exs_mono b (fun _ _ x => x) k q
    · rw [if_neg c] at q ⊢
      exact h _ _ q
  | .while_ c b, _, _, _, _, _, _, h, k, q => by
    unfold ex at *
    obtain ⟨W, w0, t⟩ := q
    exact ⟨W, w0, fun n s1 m1 w => ev_mono c (fun _ _ => onBl_mono fun _ => ite_mono (exs_mono b (fun _ _ x => x) k) (h _ _)) (t n s1 m1 w)⟩
theorem exs_mono : ∀ (l : Sts) {s : Env} {m : M} {N N' : NQ} {R R' : PQ}, (∀ s m, N s m → N' s m) → (∀ v m, R v m → R' v m) → exs T F l s m N R → exs T F l s m N' R'
  | .nil, _, _, _, _, _, _, h, _, q => by unfold exs at *; exact h _ _ q
  | .cons a l, _, _, _, _, _, _, h, k, q => by unfold exs at *; exact ex_mono a (fun _ _ => exs_mono l h k) k q
end
end
end FH
end
section
set_option linter.all false
set_option Elab.async false
set_option maxRecDepth 100000
set_option maxHeartbeats 4000000
namespace FHG
open PySem PySem.Spec PyProof.Rows L2
def top (i : Nat) : Stmt := PySem.Challenge.pw_floathalf_s01_answers.main.body.getD i (.Pass ⟨0, 0, 0, 0⟩)
def stOf : Nat → Stmt := fun j => ([top 4, top 5, top 6, top 7, top 8, top 9, top 10, top 11, top 12, top 13, top 14, top 15, top 16, top 17, top 18, top 19, top 20, top 21, top 22, top 29, top 35, top 36, top 37, top 38, top 39, top 40, top 41, top 42, top 43, top 44, top 50, top 51, top 52, top 53, top 54, top 55, top 57, top 58, top 59, top 60, top 61, top 62, top 63, top 64, top 65, top 66, top 67, top 68, top 69, top 70, top 71, top 72, top 73, top 75, top 76, top 78, top 79, top 80, top 81, top 82, top 83, top 84, top 85, top 86, top 87, top 88, inClass (top 92) 1, inClass (top 92) 2, inClass (top 92) 3, inClass (top 92) 4, inClass (top 92) 5, inClass (top 92) 6, inClass (top 92) 7, top 100, top 102, top 103, top 104, top 105, top 106, top 107, top 108, top 109, top 110, top 111, top 112, top 113, top 114, top 115, top 120, top 121, top 122, top 123, top 125, top 126, top 130, top 131, top 132, top 133, top 134, top 135, top 136, top 137, top 138, top 139, top 140, top 141, top 142, top 143, top 144, top 145, top 146, top 149, top 150, top 151, top 152, top 154, top 155, top 156, top 157, top 158, top 159, top 160, top 167, top 168, top 169, top 170, top 171, top 184, top 185, top 186, top 187, top 188, top 198, top 199, top 200, top 201, top 202] : List Stmt).getD j (.Pass ⟨0, 0, 0, 0⟩)
def ctL : List Str := ["WIDTHS", "EXPONENT_BITS", "FRACTION_BITS", "BOXES", "COUNTS"]
def diL : List Str := ["KINDS", "WIDTHS_OF_F3"]
def conL_0 : List Str := ["NX", "UF", "OF", "DZ", "NV", "EQUAL", "LESS", "LESS_OR_EQUAL", "QUIETLY_LESS", "TOWARD_ZERO"]
def conL_1 : List Str := ["DOWN", "UP", "NEAREST_AWAY", "MEMORY_SIZE", "TARGET_BESIDE_WORDS", "PC_OUTSIDE", "NOT_LEGAL", "LOAD_OUTSIDE", "STORE_OUTSIDE", "FFLAGS_control_words"]
def conL_2 : List Str := ["FRM_control_words", "FCSR", "ANY_MODE", "STOP_WORD", "BY_NUMBER", "AT_END", "BY_STOP_WORD", "BY_FAULT", "NEW", "PROGRAM"]
def conL_3 : List Str := ["RUN", "GET", "SET", "READ", "WRITE", "FRM_machine_calls", "FFLAGS_machine_calls", "PC", "CAUSE", "OP"]
def conL_4 : List Str := ["COMPARE", "CLASS_OF", "CONVERT", "WHOLE", "FLOATING"]
def conL : List Str := conL_0 ++ conL_1 ++ conL_2 ++ conL_3 ++ conL_4
def fnL_0 : List Str := ["fraction_bits", "greatest_exponent", "least_exponent", "sign_of", "own_bits", "size_bits", "with_sign", "negated", "infinite_size", "is_nan"]
def fnL_1 : List Str := ["is_signaling", "is_infinite", "is_zero", "is_subnormal", "zero", "infinity", "greatest_finite", "canonical_nan", "finite_parts", "signaling_flags"]
def fnL_2 : List Str := ["place", "goes_first", "chosen", "choose", "give_sign", "compare_nans", "holds", "compare", "class_below", "class_of"]
def fnL_3 : List Str := ["grows", "cut", "is_cut_exactly", "is_tiny", "overflowed", "rounded", "invalid", "answer_of_nans", "rounded_sum", "add"]
def fnL_4 : List Str := ["subtract", "is_infinity_times_zero", "product_parts", "multiply", "enough_bits", "marked", "rounded_quotient", "divide", "whole_root", "rounded_root"]
def fnL_5 : List Str := ["root", "fuse", "fuse_turned", "wrapped", "signed", "convert", "round_within", "round_within_silently", "bits_of_sort", "has_sign"]
def fnL_6 : List Str := ["least_of_sort", "greatest_of_sort", "beyond_sort", "to_whole", "number_of_sort", "from_whole", "begin", "put_x", "operand", "put_f"]
def fnL_7 : List Str := ["raise_flags", "load", "store", "require", "opcode_of", "rd_of", "f3_of", "rs1_of", "rs2_of", "fm_of"]
def fnL_8 : List Str := ["f7_of", "f5_of", "rs3_of", "control_of", "offset_i", "offset_s", "offset_b", "offset_j", "control_content", "put_control"]
def fnL_9 : List Str := ["written", "exchange_control", "arithmetic_answer", "operate", "form_of", "mode_of", "put_float", "put_whole", "execute_fused", "execute_operation"]
def fnL_10 : List Str := ["execute_chosen", "execute_root", "execute_conversion", "execute_comparison", "sort_of", "execute_to_whole", "execute_from_whole", "execute_out", "execute_in", "execute_to_f"]
def fnL_11 : List Str := ["execute_float", "form_and_size", "address_of", "load_float", "store_float", "put_upper", "add_offset", "add_or_subtract", "target_of", "is_taken"]
def fnL_12 : List Str := ["branch", "jump", "execute", "is_at_end", "next_word", "step", "run", "content_of", "put_content", "put_program"]
def fnL_13 : List Str := ["put_bytes", "answer_of_machine", "call_size", "is_within_limits", "answer_of_numbers", "answer_of_call", "answers"]
def fnL : List Str := fnL_0 ++ fnL_1 ++ fnL_2 ++ fnL_3 ++ fnL_4 ++ fnL_5 ++ fnL_6 ++ fnL_7 ++ fnL_8 ++ fnL_9 ++ fnL_10 ++ fnL_11 ++ fnL_12 ++ fnL_13
def namesL_0 : List (List Str) := [["form"], ["form"], ["form"], ["form", "a"], ["form", "a"], ["form", "a"], ["form", "sign", "size"], ["form", "a"], ["form"], ["form", "a"]]
def namesL_1 : List (List Str) := [["form", "a"], ["form", "a"], ["form", "a"], ["form", "a"], ["form", "sign"], ["form", "sign"], ["form", "sign"], ["form"], ["form", "a", "places", "size", "field", "fraction"], ["form", "operands", "a"]]
def namesL_2 : List (List Str) := [["form", "a"], ["form", "a", "b"], ["form", "greatest", "a", "b"], ["form", "greatest", "a", "b"], ["form", "operation", "a", "b", "sign"], ["form", "kind", "a", "b"], ["form", "kind", "a", "b"], ["form", "kind", "a", "b"], ["form", "a"], ["form", "a"]]
def namesL_3 : List (List Str) := [["mode", "sign", "kept", "rest", "middle"], ["mode", "sign", "n", "drop", "kept", "rest"], ["n", "drop"], ["form", "mode", "sign", "n", "k", "grid"], ["form", "mode", "sign", "stays_finite"], ["form", "mode", "sign", "n", "k", "places", "lowest_grid", "grid", "kept", "bits"], ["form"], ["form", "operands"], ["form", "mode", "first", "second", "sign", "n", "k", "other_sign", "other_n", "other_k", "low", "total"], ["form", "mode", "a", "b"]]
def namesL_4 : List (List Str) := [["form", "mode", "a", "b"], ["form", "a", "b"], ["form", "a", "b", "a_sign", "a_n", "a_k", "b_sign", "b_n", "b_k"], ["form", "mode", "a", "b", "sign", "n", "k"], ["form"], ["kept", "exact"], ["form", "mode", "sign", "first", "second", "n", "k", "other_n", "other_k", "shift", "kept", "rest"], ["form", "mode", "a", "b", "sign"], ["n", "guess", "better"], ["form", "mode", "n", "k", "shift", "wide", "kept"]]
def namesL_5 : List (List Str) := [["form", "mode", "a", "sign", "n", "k"], ["form", "mode", "a", "b", "c", "sign"], ["form", "operation", "mode", "a", "b", "c", "first", "addend"], ["number"], ["number", "bits", "sign"], ["source", "goal", "mode", "a", "sign", "n", "k"], ["form", "mode", "a", "sign", "n", "k", "flags", "size"], ["form", "mode", "a", "bits", "flags"], ["sort"], ["sort"]]
def namesL_6 : List (List Str) := [["sort"], ["sort"], ["sort", "below"], ["form", "sort", "mode", "a", "sign", "n", "k", "size", "number"], ["sort", "v"], ["form", "sort", "mode", "v", "number"], ["self"], ["self", "place", "number"], ["self", "form", "place", "content"], ["self", "form", "place", "bits"]]
def namesL_7 : List (List Str) := [["self", "flags"], ["self", "address", "size", "number", "place"], ["self", "address", "size", "number", "place"], ["legal", "word"], ["word"], ["word"], ["word"], ["word"], ["word"], ["word"]]
def namesL_8 : List (List Str) := [["word"], ["word"], ["word"], ["word"], ["word"], ["word"], ["word", "low"], ["word", "low"], ["machine", "which"], ["machine", "which", "number"]]
def namesL_9 : List (List Str) := [["form", "old", "number"], ["machine", "word", "f3", "which", "place", "number", "old"], ["form", "operation", "mode", "operands", "a", "b", "c"], ["form", "operation", "mode", "operands", "a", "b", "c"], ["word", "form"], ["machine", "word", "mode"], ["machine", "word", "answer", "bits", "flags"], ["machine", "word", "answer", "number", "flags"], ["machine", "word", "form", "mode", "operands", "place"], ["machine", "word", "operation", "mode", "form", "operands"]]
def namesL_10 : List (List Str) := [["machine", "word", "operations"], ["machine", "word"], ["machine", "word", "form", "mode", "source"], ["machine", "word", "form", "a", "b"], ["word"], ["machine", "word", "form", "sort", "number", "flags"], ["machine", "word", "form", "mode"], ["machine", "word", "form", "number"], ["machine", "word", "form"], ["machine", "word", "f5"]]
def namesL_11 : List (List Str) := [["machine", "word", "f5"], ["word"], ["machine", "word", "offset", "size", "cause", "address"], ["machine", "word", "form", "size", "address"], ["machine", "word", "size", "address"], ["machine", "word"], ["machine", "word"], ["machine", "word", "first", "second"], ["machine", "offset", "target"], ["machine", "word", "f3", "first", "second"]]
def namesL_12 : List (List Str) := [["machine", "word"], ["machine", "word", "target"], ["machine", "word", "opcode"], ["machine"], ["machine"], ["machine", "word", "opcode"], ["machine", "steps", "made", "word", "e"], ["machine", "what"], ["machine", "what", "v"], ["machine", "words"]]
def namesL_13 : List (List Str) := [["machine", "at", "row", "place", "byte"], ["machine", "which", "numbers", "at", "n"], ["calls", "at", "which", "size"], ["which", "numbers", "limit", "number"], ["which", "numbers"], ["machine", "which", "numbers"], ["calls", "machine", "given", "at", "size", "answer"]]
def namesL : List (List Str) := namesL_0 ++ namesL_1 ++ namesL_2 ++ namesL_3 ++ namesL_4 ++ namesL_5 ++ namesL_6 ++ namesL_7 ++ namesL_8 ++ namesL_9 ++ namesL_10 ++ namesL_11 ++ namesL_12 ++ namesL_13
def arity : List Nat := [1, 1, 1, 2, 2, 2, 3, 2, 1, 2, 2, 2, 2, 2, 2, 2, 2, 1, 2, 2, 2, 3, 4, 4, 4, 4, 4, 4, 2, 2, 5, 4, 2, 5, 3, 5, 1, 2, 4, 4, 4, 3, 3, 4, 1, 2, 5, 4, 1, 4, 3, 5, 6, 1, 2, 4, 3, 3, 1, 1, 1, 1, 2, 4, 2, 4, 1, 3, 3, 4, 2, 3, 4, 2, 1, 1, 1, 1, 1, 1, 1, 1, 1, 1, 1, 1, 1, 1, 2, 3, 3, 2, 4, 4, 1, 2, 3, 3, 2, 4, 3, 2, 2, 2, 1, 2, 2, 2, 2, 2, 2, 1, 5, 2, 2, 2, 2, 2, 2, 2, 2, 2, 2, 1, 1, 1, 2, 2, 3, 2, 3, 3, 2, 2, 2, 3, 1]
def isMt (j : Nat) : Bool := decide (66 ≤ j) && decide (j ≤ 72)
abbrev sFi : Stmt := inClass (top 99) 0
abbrev sMi : Stmt := inClass (top 92) 0
inductive Nv where | adr (a : Nat) | int (i : Int) | oth
inductive Sm where
  | fn (name qual : Str) (params : Arguments) (body : FuncBody) (scope : Scope) (globals : Addr) (closure : List (Str × Addr)) (dfl : Bool) (code : Nv) (builtins : Addr)
  | code (q : Str)
  | ns (l : List (Option Str × Nv))
  | oth
def fnS (n q : Str) (st : Stmt) (c : Nat) : Sm := .fn n q (defArgs st) (.stmts (defBody st)) (defScope st) mainGlobals [] true (.adr c) builtinsNs
def fnW_0 : List Sm := [fnS "fraction_bits" "fraction_bits" (top 4) 23, fnS "greatest_exponent" "greatest_exponent" (top 5) 30, fnS "least_exponent" "least_exponent" (top 6) 37, fnS "sign_of" "sign_of" (top 7) 44, fnS "own_bits" "own_bits" (top 8) 51, fnS "size_bits" "size_bits" (top 9) 58, fnS "with_sign" "with_sign" (top 10) 65, fnS "negated" "negated" (top 11) 72, fnS "infinite_size" "infinite_size" (top 12) 79, fnS "is_nan" "is_nan" (top 13) 86, fnS "is_signaling" "is_signaling" (top 14) 93, fnS "is_infinite" "is_infinite" (top 15) 100]
def fnW_1 : List Sm := [fnS "is_zero" "is_zero" (top 16) 107, fnS "is_subnormal" "is_subnormal" (top 17) 114, fnS "zero" "zero" (top 18) 121, fnS "infinity" "infinity" (top 19) 128, fnS "greatest_finite" "greatest_finite" (top 20) 135, fnS "canonical_nan" "canonical_nan" (top 21) 142, fnS "finite_parts" "finite_parts" (top 22) 149, fnS "signaling_flags" "signaling_flags" (top 29) 156, fnS "place" "place" (top 35) 163, fnS "goes_first" "goes_first" (top 36) 170, fnS "chosen" "chosen" (top 37) 177, fnS "choose" "choose" (top 38) 184]
def fnW_2 : List Sm := [fnS "give_sign" "give_sign" (top 39) 191, fnS "compare_nans" "compare_nans" (top 40) 198, fnS "holds" "holds" (top 41) 205, fnS "compare" "compare" (top 42) 212, fnS "class_below" "class_below" (top 43) 219, fnS "class_of" "class_of" (top 44) 226, fnS "grows" "grows" (top 50) 233, fnS "cut" "cut" (top 51) 240, fnS "is_cut_exactly" "is_cut_exactly" (top 52) 247, fnS "is_tiny" "is_tiny" (top 53) 254, fnS "overflowed" "overflowed" (top 54) 261, fnS "rounded" "rounded" (top 55) 268]
def fnW_3 : List Sm := [fnS "invalid" "invalid" (top 57) 275, fnS "answer_of_nans" "answer_of_nans" (top 58) 282, fnS "rounded_sum" "rounded_sum" (top 59) 289, fnS "add" "add" (top 60) 296, fnS "subtract" "subtract" (top 61) 303, fnS "is_infinity_times_zero" "is_infinity_times_zero" (top 62) 310, fnS "product_parts" "product_parts" (top 63) 317, fnS "multiply" "multiply" (top 64) 324, fnS "enough_bits" "enough_bits" (top 65) 331, fnS "marked" "marked" (top 66) 338, fnS "rounded_quotient" "rounded_quotient" (top 67) 345, fnS "divide" "divide" (top 68) 352]
def fnW_4 : List Sm := [fnS "whole_root" "whole_root" (top 69) 359, fnS "rounded_root" "rounded_root" (top 70) 366, fnS "root" "root" (top 71) 373, fnS "fuse" "fuse" (top 72) 380, fnS "fuse_turned" "fuse_turned" (top 73) 387, fnS "wrapped" "wrapped" (top 75) 394, fnS "signed" "signed" (top 76) 401, fnS "convert" "convert" (top 78) 408, fnS "round_within" "round_within" (top 79) 415, fnS "round_within_silently" "round_within_silently" (top 80) 422, fnS "bits_of_sort" "bits_of_sort" (top 81) 429, fnS "has_sign" "has_sign" (top 82) 436]
def fnW_5 : List Sm := [fnS "least_of_sort" "least_of_sort" (top 83) 443, fnS "greatest_of_sort" "greatest_of_sort" (top 84) 450, fnS "beyond_sort" "beyond_sort" (top 85) 457, fnS "to_whole" "to_whole" (top 86) 464, fnS "number_of_sort" "number_of_sort" (top 87) 471, fnS "from_whole" "from_whole" (top 88) 478, fnS "begin" "Machine.begin" (inClass (top 92) 1) 500, fnS "put_x" "Machine.put_x" (inClass (top 92) 2) 507, fnS "operand" "Machine.operand" (inClass (top 92) 3) 514, fnS "put_f" "Machine.put_f" (inClass (top 92) 4) 521, fnS "raise_flags" "Machine.raise_flags" (inClass (top 92) 5) 528, fnS "load" "Machine.load" (inClass (top 92) 6) 535]
def fnW_6 : List Sm := [fnS "store" "Machine.store" (inClass (top 92) 7) 542, fnS "require" "require" (top 100) 576, fnS "opcode_of" "opcode_of" (top 102) 583, fnS "rd_of" "rd_of" (top 103) 590, fnS "f3_of" "f3_of" (top 104) 597, fnS "rs1_of" "rs1_of" (top 105) 604, fnS "rs2_of" "rs2_of" (top 106) 611, fnS "fm_of" "fm_of" (top 107) 618, fnS "f7_of" "f7_of" (top 108) 625, fnS "f5_of" "f5_of" (top 109) 632, fnS "rs3_of" "rs3_of" (top 110) 639, fnS "control_of" "control_of" (top 111) 646]
def fnW_7 : List Sm := [fnS "offset_i" "offset_i" (top 112) 653, fnS "offset_s" "offset_s" (top 113) 660, fnS "offset_b" "offset_b" (top 114) 667, fnS "offset_j" "offset_j" (top 115) 674, fnS "control_content" "control_content" (top 120) 681, fnS "put_control" "put_control" (top 121) 688, fnS "written" "written" (top 122) 695, fnS "exchange_control" "exchange_control" (top 123) 702, fnS "arithmetic_answer" "arithmetic_answer" (top 125) 709, fnS "operate" "operate" (top 126) 716, fnS "form_of" "form_of" (top 130) 724, fnS "mode_of" "mode_of" (top 131) 731]
def fnW_8 : List Sm := [fnS "put_float" "put_float" (top 132) 738, fnS "put_whole" "put_whole" (top 133) 745, fnS "execute_fused" "execute_fused" (top 134) 750, fnS "execute_operation" "execute_operation" (top 135) 757, fnS "execute_chosen" "execute_chosen" (top 136) 764, fnS "execute_root" "execute_root" (top 137) 771, fnS "execute_conversion" "execute_conversion" (top 138) 778, fnS "execute_comparison" "execute_comparison" (top 139) 785, fnS "sort_of" "sort_of" (top 140) 792, fnS "execute_to_whole" "execute_to_whole" (top 141) 799, fnS "execute_from_whole" "execute_from_whole" (top 142) 806, fnS "execute_out" "execute_out" (top 143) 813]
def fnW_9 : List Sm := [fnS "execute_in" "execute_in" (top 144) 820, fnS "execute_to_f" "execute_to_f" (top 145) 827, fnS "execute_float" "execute_float" (top 146) 834, fnS "form_and_size" "form_and_size" (top 149) 845, fnS "address_of" "address_of" (top 150) 852, fnS "load_float" "load_float" (top 151) 859, fnS "store_float" "store_float" (top 152) 866, fnS "put_upper" "put_upper" (top 154) 873, fnS "add_offset" "add_offset" (top 155) 880, fnS "add_or_subtract" "add_or_subtract" (top 156) 887, fnS "target_of" "target_of" (top 157) 894, fnS "is_taken" "is_taken" (top 158) 901]
def fnW_10 : List Sm := [fnS "branch" "branch" (top 159) 908, fnS "jump" "jump" (top 160) 915, fnS "execute" "execute" (top 167) 922, fnS "is_at_end" "is_at_end" (top 168) 929, fnS "next_word" "next_word" (top 169) 936, fnS "step" "step" (top 170) 943, fnS "run" "run" (top 171) 950, fnS "content_of" "content_of" (top 184) 957, fnS "put_content" "put_content" (top 185) 964, fnS "put_program" "put_program" (top 186) 971, fnS "put_bytes" "put_bytes" (top 187) 978, fnS "answer_of_machine" "answer_of_machine" (top 188) 985]
def fnW_11 : List Sm := [fnS "call_size" "call_size" (top 198) 1007, fnS "is_within_limits" "is_within_limits" (top 199) 1014, fnS "answer_of_numbers" "answer_of_numbers" (top 200) 1021, fnS "answer_of_call" "answer_of_call" (top 201) 1028, fnS "answers" "answers" (top 202) 1035]
def fnW : List Sm := fnW_0 ++ fnW_1 ++ fnW_2 ++ fnW_3 ++ fnW_4 ++ fnW_5 ++ fnW_6 ++ fnW_7 ++ fnW_8 ++ fnW_9 ++ fnW_10 ++ fnW_11
def qualL_0 : List Str := ["fraction_bits", "greatest_exponent", "least_exponent", "sign_of", "own_bits", "size_bits", "with_sign", "negated", "infinite_size", "is_nan", "is_signaling", "is_infinite"]
def qualL_1 : List Str := ["is_zero", "is_subnormal", "zero", "infinity", "greatest_finite", "canonical_nan", "finite_parts", "signaling_flags", "place", "goes_first", "chosen", "choose"]
def qualL_2 : List Str := ["give_sign", "compare_nans", "holds", "compare", "class_below", "class_of", "grows", "cut", "is_cut_exactly", "is_tiny", "overflowed", "rounded"]
def qualL_3 : List Str := ["invalid", "answer_of_nans", "rounded_sum", "add", "subtract", "is_infinity_times_zero", "product_parts", "multiply", "enough_bits", "marked", "rounded_quotient", "divide"]
def qualL_4 : List Str := ["whole_root", "rounded_root", "root", "fuse", "fuse_turned", "wrapped", "signed", "convert", "round_within", "round_within_silently", "bits_of_sort", "has_sign"]
def qualL_5 : List Str := ["least_of_sort", "greatest_of_sort", "beyond_sort", "to_whole", "number_of_sort", "from_whole", "Machine.begin", "Machine.put_x", "Machine.operand", "Machine.put_f", "Machine.raise_flags", "Machine.load"]
def qualL_6 : List Str := ["Machine.store", "require", "opcode_of", "rd_of", "f3_of", "rs1_of", "rs2_of", "fm_of", "f7_of", "f5_of", "rs3_of", "control_of"]
def qualL_7 : List Str := ["offset_i", "offset_s", "offset_b", "offset_j", "control_content", "put_control", "written", "exchange_control", "arithmetic_answer", "operate", "form_of", "mode_of"]
def qualL_8 : List Str := ["put_float", "put_whole", "execute_fused", "execute_operation", "execute_chosen", "execute_root", "execute_conversion", "execute_comparison", "sort_of", "execute_to_whole", "execute_from_whole", "execute_out"]
def qualL_9 : List Str := ["execute_in", "execute_to_f", "execute_float", "form_and_size", "address_of", "load_float", "store_float", "put_upper", "add_offset", "add_or_subtract", "target_of", "is_taken"]
def qualL_10 : List Str := ["branch", "jump", "execute", "is_at_end", "next_word", "step", "run", "content_of", "put_content", "put_program", "put_bytes", "answer_of_machine"]
def qualL_11 : List Str := ["call_size", "is_within_limits", "answer_of_numbers", "answer_of_call", "answers"]
def qualL : List Str := qualL_0 ++ qualL_1 ++ qualL_2 ++ qualL_3 ++ qualL_4 ++ qualL_5 ++ qualL_6 ++ qualL_7 ++ qualL_8 ++ qualL_9 ++ qualL_10 ++ qualL_11
def adL_0 : List Nat := [24, 31, 38, 45, 52, 59, 66, 73, 80, 87, 94, 101, 108, 115, 122, 129, 136, 143, 150, 157, 164, 171, 178, 185, 192, 199, 206, 213, 220, 227]
def adL_1 : List Nat := [234, 241, 248, 255, 262, 269, 276, 283, 290, 297, 304, 311, 318, 325, 332, 339, 346, 353, 360, 367, 374, 381, 388, 395, 402, 409, 416, 423, 430, 437]
def adL_2 : List Nat := [444, 451, 458, 465, 472, 479, 501, 508, 515, 522, 529, 536, 543, 577, 584, 591, 598, 605, 612, 619, 626, 633, 640, 647, 654, 661, 668, 675, 682, 689]
def adL_3 : List Nat := [696, 703, 710, 717, 725, 732, 739, 746, 751, 758, 765, 772, 779, 786, 793, 800, 807, 814, 821, 828, 835, 846, 853, 860, 867, 874, 881, 888, 895, 902]
def adL_4 : List Nat := [909, 916, 923, 930, 937, 944, 951, 958, 965, 972, 979, 986, 1008, 1015, 1022, 1029, 1036]
def adL : List Nat := adL_0 ++ adL_1 ++ adL_2 ++ adL_3 ++ adL_4
def nsW_0 : List (Option Str × Nv) := [(some "__name__", .oth), (some "__doc__", .oth), (some "__package__", .oth), (some "__loader__", .oth), (some "__spec__", .oth), (some "__annotations__", .adr 6), (some "__builtins__", .adr 4), (some "__file__", .oth), (some "__cached__", .oth), (some "WIDTHS", .adr 15), (some "EXPONENT_BITS", .adr 16), (some "FRACTION_BITS", .adr 17)]
def nsW_1 : List (Option Str × Nv) := [(some "fraction_bits", .adr 24), (some "greatest_exponent", .adr 31), (some "least_exponent", .adr 38), (some "sign_of", .adr 45), (some "own_bits", .adr 52), (some "size_bits", .adr 59), (some "with_sign", .adr 66), (some "negated", .adr 73), (some "infinite_size", .adr 80), (some "is_nan", .adr 87), (some "is_signaling", .adr 94), (some "is_infinite", .adr 101)]
def nsW_2 : List (Option Str × Nv) := [(some "is_zero", .adr 108), (some "is_subnormal", .adr 115), (some "zero", .adr 122), (some "infinity", .adr 129), (some "greatest_finite", .adr 136), (some "canonical_nan", .adr 143), (some "finite_parts", .adr 150), (some "NX", .int 1), (some "UF", .int 2), (some "OF", .int 4), (some "DZ", .int 8), (some "NV", .int 16)]
def nsW_3 : List (Option Str × Nv) := [(some "signaling_flags", .adr 157), (some "EQUAL", .int 0), (some "LESS", .int 1), (some "LESS_OR_EQUAL", .int 2), (some "QUIETLY_LESS", .int 3), (some "place", .adr 164), (some "goes_first", .adr 171), (some "chosen", .adr 178), (some "choose", .adr 185), (some "give_sign", .adr 192), (some "compare_nans", .adr 199), (some "holds", .adr 206)]
def nsW_4 : List (Option Str × Nv) := [(some "compare", .adr 213), (some "class_below", .adr 220), (some "class_of", .adr 227), (some "TOWARD_ZERO", .int 1), (some "DOWN", .int 2), (some "UP", .int 3), (some "NEAREST_AWAY", .int 4), (some "grows", .adr 234), (some "cut", .adr 241), (some "is_cut_exactly", .adr 248), (some "is_tiny", .adr 255), (some "overflowed", .adr 262)]
def nsW_5 : List (Option Str × Nv) := [(some "rounded", .adr 269), (some "invalid", .adr 276), (some "answer_of_nans", .adr 283), (some "rounded_sum", .adr 290), (some "add", .adr 297), (some "subtract", .adr 304), (some "is_infinity_times_zero", .adr 311), (some "product_parts", .adr 318), (some "multiply", .adr 325), (some "enough_bits", .adr 332), (some "marked", .adr 339), (some "rounded_quotient", .adr 346)]
def nsW_6 : List (Option Str × Nv) := [(some "divide", .adr 353), (some "whole_root", .adr 360), (some "rounded_root", .adr 367), (some "root", .adr 374), (some "fuse", .adr 381), (some "fuse_turned", .adr 388), (some "wrapped", .adr 395), (some "signed", .adr 402), (some "convert", .adr 409), (some "round_within", .adr 416), (some "round_within_silently", .adr 423), (some "bits_of_sort", .adr 430)]
def nsW_7 : List (Option Str × Nv) := [(some "has_sign", .adr 437), (some "least_of_sort", .adr 444), (some "greatest_of_sort", .adr 451), (some "beyond_sort", .adr 458), (some "to_whole", .adr 465), (some "number_of_sort", .adr 472), (some "from_whole", .adr 479), (some "MEMORY_SIZE", .int 4096), (some "BOXES", .adr 480), (some "Machine", .adr 546), (some "TARGET_BESIDE_WORDS", .int 0), (some "PC_OUTSIDE", .int 1)]
def nsW_8 : List (Option Str × Nv) := [(some "NOT_LEGAL", .int 2), (some "LOAD_OUTSIDE", .int 5), (some "STORE_OUTSIDE", .int 7), (some "Fault", .adr 567), (some "require", .adr 577), (some "opcode_of", .adr 584), (some "rd_of", .adr 591), (some "f3_of", .adr 598), (some "rs1_of", .adr 605), (some "rs2_of", .adr 612), (some "fm_of", .adr 619), (some "f7_of", .adr 626)]
def nsW_9 : List (Option Str × Nv) := [(some "f5_of", .adr 633), (some "rs3_of", .adr 640), (some "control_of", .adr 647), (some "offset_i", .adr 654), (some "offset_s", .adr 661), (some "offset_b", .adr 668), (some "offset_j", .adr 675), (some "FFLAGS_control_words", .int 1), (some "FRM_control_words", .int 2), (some "FCSR", .int 3), (some "control_content", .adr 682), (some "put_control", .adr 689)]
def nsW_10 : List (Option Str × Nv) := [(some "written", .adr 696), (some "exchange_control", .adr 703), (some "arithmetic_answer", .adr 710), (some "operate", .adr 717), (some "ANY_MODE", .int 0), (some "KINDS", .adr 718), (some "form_of", .adr 725), (some "mode_of", .adr 732), (some "put_float", .adr 739), (some "put_whole", .adr 746), (some "execute_fused", .adr 751), (some "execute_operation", .adr 758)]
def nsW_11 : List (Option Str × Nv) := [(some "execute_chosen", .adr 765), (some "execute_root", .adr 772), (some "execute_conversion", .adr 779), (some "execute_comparison", .adr 786), (some "sort_of", .adr 793), (some "execute_to_whole", .adr 800), (some "execute_from_whole", .adr 807), (some "execute_out", .adr 814), (some "execute_in", .adr 821), (some "execute_to_f", .adr 828), (some "execute_float", .adr 835), (some "WIDTHS_OF_F3", .adr 836)]
def nsW_12 : List (Option Str × Nv) := [(some "form_and_size", .adr 846), (some "address_of", .adr 853), (some "load_float", .adr 860), (some "store_float", .adr 867), (some "put_upper", .adr 874), (some "add_offset", .adr 881), (some "add_or_subtract", .adr 888), (some "target_of", .adr 895), (some "is_taken", .adr 902), (some "branch", .adr 909), (some "jump", .adr 916), (some "STOP_WORD", .int 115)]
def nsW_13 : List (Option Str × Nv) := [(some "BY_NUMBER", .int 0), (some "AT_END", .int 1), (some "BY_STOP_WORD", .int 2), (some "BY_FAULT", .int 3), (some "execute", .adr 923), (some "is_at_end", .adr 930), (some "next_word", .adr 937), (some "step", .adr 944), (some "run", .adr 951), (some "NEW", .int 6), (some "PROGRAM", .int 7), (some "RUN", .int 8)]
def nsW_14 : List (Option Str × Nv) := [(some "GET", .int 9), (some "SET", .int 10), (some "READ", .int 11), (some "WRITE", .int 12), (some "FRM_machine_calls", .int 64), (some "FFLAGS_machine_calls", .int 65), (some "PC", .int 66), (some "CAUSE", .int 67), (some "content_of", .adr 958), (some "put_content", .adr 965), (some "put_program", .adr 972), (some "put_bytes", .adr 979)]
def nsW_15 : List (Option Str × Nv) := [(some "answer_of_machine", .adr 986), (some "OP", .int 0), (some "COMPARE", .int 1), (some "CLASS_OF", .int 2), (some "CONVERT", .int 3), (some "WHOLE", .int 4), (some "FLOATING", .int 5), (some "COUNTS", .adr 987), (some "LIMITS", .adr 1001), (some "call_size", .adr 1008), (some "is_within_limits", .adr 1015), (some "answer_of_numbers", .adr 1022)]
def nsW_16 : List (Option Str × Nv) := [(some "answer_of_call", .adr 1029), (some "answers", .adr 1036)]
def nsW : List (Option Str × Nv) := nsW_0 ++ nsW_1 ++ nsW_2 ++ nsW_3 ++ nsW_4 ++ nsW_5 ++ nsW_6 ++ nsW_7 ++ nsW_8 ++ nsW_9 ++ nsW_10 ++ nsW_11 ++ nsW_12 ++ nsW_13 ++ nsW_14 ++ nsW_15 ++ nsW_16
end FHG
end
section
set_option linter.all false
set_option Elab.async false
set_option maxRecDepth 100000
set_option maxHeartbeats 4000000
namespace FHG
open PySem PySem.Spec PyProof.Rows L2 FH
/-! ### what is looked at behind the top -/
def nvO : Value → Nv
  | .ref a => .adr a
  | .int i _ => .int i
  | _ => .oth
def keyS : Value → Option Str
  | .str x _ => some x
  | _ => none
def noneV : Value → Bool
  | .none => true
  | _ => false
def smF : List Value → Sm
  | _ :: .str n _ :: _ => .code n
  | _ => .oth
def smry : Option Obj → Sm
  | some ⟨_, _, .func fd, _⟩ => .fn fd.name fd.qualname fd.params fd.body fd.scope fd.globals fd.closure (noneV fd.defaults) (nvO fd.code) fd.builtins
  | some ⟨_, _, .fields vs, _⟩ => smF vs.toList
  | some ⟨_, _, .dict es _, _⟩ => .ns (es.toList.map fun e => (keyS e.key, nvO e.val))
  | _ => .oth
def clA : Nat := 546
def fxA : Nat := 567
def miA : Nat := 494
def fiA : Nat := 564
def mtA : List Nat := [501, 508, 515, 522, 529, 536, 543]
def ctA : List Nat := [15, 16, 17, 480, 987]
def diA : List Nat := [718, 836]
def rwA : List Nat := [988, 989, 990, 991, 992, 993, 994, 995, 996, 997, 998, 999, 1000]
def lmA : Nat := 1001
def smA : List Nat := mainGlobals :: miA :: (miA - 1) :: fiA :: (fiA - 1) :: (adL ++ adL.map fun a => a - 1)
def smL : List Sm := .ns nsW :: fnS "__init__" "Machine.__init__" sMi (miA - 1) :: .code "Machine.__init__" :: fnS "__init__" "Fault.__init__" sFi (fiA - 1) :: .code "Fault.__init__" :: (fnW ++ qualL.map Sm.code)
def asL : List Nat := [546, 545, 567, 566, 494, 564] ++ mtA ++ ctA ++ diA ++ [837, 838, 839] ++ lmA :: rwA ++ smA
def ctW : List (List Int) := [[32, 64, 16], [8, 11, 5], [23, 52, 10], [18446744069414584320, 0, 18446744073709486080], [6, 4, 2, 4, 4, 4, 0, 1, 1, 1, 2, 2, 2]]
def diW : List (List (Int × PV)) := [[(0, .int 2), (1, .int 1), (2, .int 0), (4, .int 4), (5, .int 3)], [(1, .tup [2, 2]), (2, .tup [0, 4]), (3, .tup [1, 8])]]
def lmW : List (List Int) := [[2, 15, 4], [2, 4], [2], [2, 2, 4], [2, 7, 4], [2, 7, 4], [], [1024], [1000], [68], [66], [], []]
/-! ### the checks -/
def eqI : List Int → List Value → Bool
  | [], [] => true
  | i :: is, .int j _ :: us => decide (j = i) && eqI is us
  | _, _ => false
def tupA (K : PySem.W.Frag) (a : Addr) (l : List Int) : Bool := match K.lookup a with
  | some ⟨.type c, _, .seq its _, _⟩ => decide (c = "tuple") && (decide (its.size ≤ sizeLine) && eqI l its.toList)
  | _ => false
def eqA : List Nat → List Value → Bool
  | [], [] => true
  | i :: is, .ref j :: us => decide (j = i) && eqA is us
  | _, _ => false
def tupR (K : PySem.W.Frag) (a : Addr) (l : List Nat) : Bool := match K.lookup a with
  | some ⟨.type c, _, .seq its _, _⟩ => decide (c = "tuple") && (decide (its.size ≤ sizeLine) && eqA l its.toList)
  | _ => false
def tupsA (K : PySem.W.Frag) : List Nat → List (List Int) → Bool
  | [], [] => true
  | a :: as, l :: ls => tupA K a l && tupsA K as ls
  | _, _ => false
def pvB (K : PySem.W.Frag) : PV → Value → Bool
  | .int i, .int j _ => decide (j = i)
  | .tup l, .ref a => tupA K a l
  | _, _ => false
def entB (K : PySem.W.Frag) : List DictEntry → List (Int × PV) → Bool
  | [], [] => true
  | e :: es, (i, pv) :: l => (match e.key with
    | .int j _ => decide (j = i)
    | _ => false) && (decide (e.hash = hashInt i) && (pvB K pv e.val && entB K es l))
  | _, _ => false
def dicB (K : PySem.W.Frag) (a : Addr) (l : List (Int × PV)) : Bool := match K.lookup a with
  | some ⟨.type c, none, .dict es _, sl⟩ => decide (c = "dict") && (sl.isEmpty && entB K es.toList l)
  | _ => false
def dicsB (K : PySem.W.Frag) : List Nat → List (List (Int × PV)) → Bool
  | [], [] => true
  | a :: as, l :: ls => dicB K a l && dicsB K as ls
  | _, _ => false
def clsB (K : PySem.W.Frag) (C : Addr) : Bool := PySem.W.plainGet K C Str.empty && (PySem.W.hasDictIn K C && (PySem.W.plainOver K C && He.eqO (PySem.W.findIn K (.ref C) "__setattr__") (some (some (.builtin "object.__setattr__")))))
def methB (K : PySem.W.Frag) (C : Addr) (m : Str) (f : Addr) : Bool := He.eqO (PySem.W.findIn K (.ref C) m) (some (some (.ref f))) && (PySem.W.isFn K (.ref f) && PySem.W.keepIn K (.ref f))
def methsB (K : PySem.W.Frag) (C : Addr) : List Str → List Nat → Bool
  | [], [] => true
  | m :: ms, f :: fs => methB K C m f && methsB K C ms fs
  | _, _ => false
def mkB (K : PySem.W.Frag) (C f : Addr) : Bool := PySem.W.makesIn K C && (He.eqO (PySem.W.findIn K (.ref C) "__init__") (some (some (.ref f))) && (PySem.W.isFn K (.ref f) && PySem.W.keepIn K (.ref C)))
def noB (K : PySem.W.Frag) (C : Addr) (x : Str) : Bool := He.eqO (PySem.W.findIn K (.ref C) x) (some none)
def mtN : List Str := ["begin", "put_x", "operand", "put_f", "raise_flags", "load", "store"]
def atW : List Str := ["x", "f", "frm", "fflags", "pc", "words", "memory", "cause", "value"]
def exA (K : PySem.W.Frag) : Bool := clsB K clA && (methsB K clA mtN mtA && (mkB K clA miA && atW.all (noB K clA)))
def exB (K : PySem.W.Frag) : Bool := tupsA K ctA ctW && (dicsB K diA diW && (tupR K lmA rwA && tupsA K rwA lmW))
def fxB (K : PySem.W.Frag) (C : Addr) : Bool := match K.lookup C with
  | some ⟨.type c, _, .cls cd, sl⟩ => decide (c = "type") && ((match cd.mro, sl.toList with
    | .ref C' :: bm, [_, _, _, _, some (.builtin n), _] => decide (C' = C) && (decide (n = "Exception.__new__") && (!cd.hasDel && (decide (bm = PySem.ESX.exTail) && cd.hasDict)))
    | _, _ => false))
  | _ => false
def fxB2 (K : PySem.W.Frag) (C f : Addr) : Bool := He.eqO (PySem.W.findIn K (.ref C) "__setattr__") (some (some (.builtin "object.__setattr__"))) && (decide (PySem.W.subIn K (.ref C) (.type "BaseException") = some true) && (decide (PySem.W.typeIn K (.ref C) = some (.type "type")) &&
  (PySem.W.keepIn K (.ref C) && (noB K C "cause" && (noB K C "value" && (He.eqO (PySem.W.findIn K (.ref C) "__init__") (some (some (.ref f))) && (decide (PySem.W.typeIn K (.ref f) = some (.type "function")) && decide (PySem.W.exmOne K (.ref C) (.ref C) = some true))))))))
def lsB (K : PySem.W.Frag) : Bool := asL.all fun a => match K.lookup a with
  | some ⟨.type c, _, .seq _ _, _⟩ => !decide (c = "list")
  | _ => true
def exC (K : PySem.W.Frag) : Bool := fxB K fxA && (fxB2 K fxA fiA && (xfB K fxA && lsB K))
abbrev AlO : Type := Bool × List Sm
def obsO (g : Addr → Option Obj) : AlO := (exA (He.frG g asL) && (exB (He.frG g asL) && exC (He.frG g asL)), smA.map fun a => smry (g a))
def valO : AlO := (true, smL)
/-! ### K's objects -/
theorem frG_look {g : Addr → Option Obj} {a : Addr} : ∀ {as : List Addr}, a ∈ as → (He.frG g as).lookup a = g a
  | [], h => by cases h
  | b :: r, h => by
    unfold He.frG
    rw [List.filterMap_cons]
    by_cases e : a = b
    · subst e
      cases q : g a with
      | none =>
        by_cases m : a ∈ r
        · have := frG_look (g := g) m
          unfold He.frG at this
          simp only [Option.map_none]
          rw [this, q]
        · simp only [Option.map_none]
          cases z : List.lookup a (List.filterMap (fun a => Option.map (fun o => (a, o)) (g a)) r) with
          | none => rfl
          | some o =>
            have : g a = some o := He.frG_at r (by unfold He.frG; exact z)
            rw [q] at this
            cases this
      | some o =>
        simp only [Option.map_some, List.lookup_cons, beq_self_eq_true]
    · have m : a ∈ r := by
        rcases List.mem_cons.mp h with z | z
        · exact absurd z e
        · exact z
      have ih := frG_look (g := g) m
      unfold He.frG at ih
      cases q : g b with
      | none =>
        simp only [Option.map_none]
        exact ih
      | some o =>
        simp only [Option.map_some, List.lookup_cons, beq_eq_false_iff_ne.mpr e]
        exact ih
structure SaysO (K : PySem.W.Frag) : Prop where
  a : exA K = true
  b : exB K = true
  c : exC K = true
  s : smA.map (fun a => smry (K.lookup a)) = smL
  n : ∀ a o, K.lookup a = some o → a ∈ asL
theorem frG_mem {g : Addr → Option Obj} {a : Addr} {o : Obj} : ∀ {as : List Addr}, (He.frG g as).lookup a = some o → a ∈ as
  | [], h => by cases h
  | b :: r, h => by
    unfold He.frG at h
    rw [List.filterMap_cons] at h
    cases q : g b with
    | none =>
      rw [q] at h
      exact List.mem_cons_of_mem _ (frG_mem (g := g) (as := r) h)
    | some u =>
      rw [q] at h
      by_cases e : a = b
      · rw [e]
        exact List.mem_cons_self ..
      · simp only [Option.map_some, List.lookup_cons, beq_eq_false_iff_ne.mpr e] at h
        exact List.mem_cons_of_mem _ (frG_mem (g := g) (as := r) h)
theorem mem_asL : ∀ a, a ∈ smA → a ∈ asL := fun a h => List.mem_append_right _ h
theorem saysO_of {h : Heap} (e : obsO h.get? = valO) : SaysO (He.frG h.get? asL) := by
  have e1 : (exA (He.frG h.get? asL) && (exB (He.frG h.get? asL) && exC (He.frG h.get? asL))) = true := congrArg (fun z : AlO => z.1) e
  have e2 : (smA.map fun a => smry (h.get? a)) = smL := congrArg (fun z : AlO => z.2) e
  obtain ⟨h1, h2⟩ := He.ba e1
  obtain ⟨h3, h4⟩ := He.ba h2
  refine ⟨h1, h3, h4, ?_, fun a o q => frG_mem q⟩
  rw [← e2]
  exact List.map_congr_left fun a ha => by rw [frG_look (mem_asL a ha)]
def hookO : PySem.W.Hook where
  α := AlO
  obs := fun s => obsO s.heap.get?
  val := fun _ => valO
  says := fun _ h => ∃ K : PySem.W.Frag, K.In h ∧ SaysO K
  of := fun _ _ e => ⟨_, He.frG_in, saysO_of e⟩
  keeps := fun _ _ _ ⟨K, hK, c⟩ k => ⟨K, PySem.W.Frag.In.keeps hK k, c⟩
def obO (s : PySem.W.SharedT) : AlO := obsO (HandSHeadRun.getT s)
theorem obO_eq (s : PySem.W.SharedT) : obO s = hookO.obs s.abs := by
  have e : HandSHeadRun.getT s = s.abs.heap.get? := funext (HandSHeadRun.getT_eq s)
  unfold obO
  rw [e]
  rfl
end FHG
end
section
set_option linter.all false
set_option Elab.async false
set_option maxRecDepth 100000
set_option maxHeartbeats 0
namespace FHG
open PySem PySem.W PySem.Calls PyProof.Rows
abbrev R : OpenSpec := PySem.Challenge.rw_floathalf_s01_answers
abbrev qv : Program := view R.prog [202]
def names_0 : List PySem.Str := ["WIDTHS", "EXPONENT_BITS", "FRACTION_BITS", "fraction_bits", "greatest_exponent", "least_exponent", "sign_of", "own_bits", "size_bits", "with_sign"]
def names_1 : List PySem.Str := ["negated", "infinite_size", "is_nan", "is_signaling", "is_infinite", "is_zero", "is_subnormal", "zero", "infinity", "greatest_finite"]
def names_2 : List PySem.Str := ["canonical_nan", "finite_parts", "NX", "UF", "OF", "DZ", "NV", "signaling_flags", "EQUAL", "LESS"]
def names_3 : List PySem.Str := ["LESS_OR_EQUAL", "QUIETLY_LESS", "place", "goes_first", "chosen", "choose", "give_sign", "compare_nans", "holds", "compare"]
def names_4 : List PySem.Str := ["class_below", "class_of", "TOWARD_ZERO", "DOWN", "UP", "NEAREST_AWAY", "grows", "cut", "is_cut_exactly", "is_tiny"]
def names_5 : List PySem.Str := ["overflowed", "rounded", "invalid", "answer_of_nans", "rounded_sum", "add", "subtract", "is_infinity_times_zero", "product_parts", "multiply"]
def names_6 : List PySem.Str := ["enough_bits", "marked", "rounded_quotient", "divide", "whole_root", "rounded_root", "root", "fuse", "fuse_turned", "wrapped"]
def names_7 : List PySem.Str := ["signed", "convert", "round_within", "round_within_silently", "bits_of_sort", "has_sign", "least_of_sort", "greatest_of_sort", "beyond_sort", "to_whole"]
def names_8 : List PySem.Str := ["number_of_sort", "from_whole", "MEMORY_SIZE", "BOXES", "Machine", "TARGET_BESIDE_WORDS", "PC_OUTSIDE", "NOT_LEGAL", "LOAD_OUTSIDE", "STORE_OUTSIDE"]
def names_9 : List PySem.Str := ["Fault", "require", "opcode_of", "rd_of", "f3_of", "rs1_of", "rs2_of", "fm_of", "f7_of", "f5_of"]
def names_10 : List PySem.Str := ["rs3_of", "control_of", "offset_i", "offset_s", "offset_b", "offset_j", "FFLAGS_control_words", "FRM_control_words", "FCSR", "control_content"]
def names_11 : List PySem.Str := ["put_control", "written", "exchange_control", "arithmetic_answer", "operate", "ANY_MODE", "KINDS", "form_of", "mode_of", "put_float"]
def names_12 : List PySem.Str := ["put_whole", "execute_fused", "execute_operation", "execute_chosen", "execute_root", "execute_conversion", "execute_comparison", "sort_of", "execute_to_whole", "execute_from_whole"]
def names_13 : List PySem.Str := ["execute_out", "execute_in", "execute_to_f", "execute_float", "WIDTHS_OF_F3", "form_and_size", "address_of", "load_float", "store_float", "put_upper"]
def names_14 : List PySem.Str := ["add_offset", "add_or_subtract", "target_of", "is_taken", "branch", "jump", "STOP_WORD", "BY_NUMBER", "AT_END", "BY_STOP_WORD"]
def names_15 : List PySem.Str := ["BY_FAULT", "execute", "is_at_end", "next_word", "step", "run", "NEW", "PROGRAM", "RUN", "GET"]
def names_16 : List PySem.Str := ["SET", "READ", "WRITE", "FRM_machine_calls", "FFLAGS_machine_calls", "PC", "CAUSE", "content_of", "put_content", "put_program"]
def names_17 : List PySem.Str := ["put_bytes", "answer_of_machine", "OP", "COMPARE", "CLASS_OF", "CONVERT", "WHOLE", "FLOATING", "COUNTS", "LIMITS"]
def names_18 : List PySem.Str := ["call_size", "is_within_limits", "answer_of_numbers", "answer_of_call"]
def names : List PySem.Str := names_0 ++ names_1 ++ names_2 ++ names_3 ++ names_4 ++ names_5 ++ names_6 ++ names_7 ++ names_8 ++ names_9 ++ names_10 ++ names_11 ++ names_12 ++ names_13 ++ names_14 ++ names_15 ++ names_16 ++ names_17 ++ names_18
noncomputable abbrev endS (w : World) (os : OsState) := HandSHeadRun.endF (HandSHeadRun.stepQ (HandSHeadRun.denQ HandSHeadRun.tabQ) R.prog w) 20000 R.prog w os
end FHG
end
section
set_option linter.all false
set_option Elab.async false
set_option maxRecDepth 100000
set_option maxHeartbeats 0
namespace FHG
open PySem PySem.W PySem.Calls PyProof.Rows
theorem r1f (w : World) (os : OsState) : (endS (w.withFollow "special-get-raises" false) os).map (fun s => HandSHeadRun.looksF R.prog (boot_heap (w.withFollow "special-get-raises" false).params) s.abs) = some true := by
  kernel_rfl
end FHG
end
section
set_option linter.all false
set_option Elab.async false
set_option maxRecDepth 100000
set_option maxHeartbeats 0
namespace FHG
open PySem PySem.W PySem.Calls PyProof.Rows
theorem r1t (w : World) (os : OsState) : (endS (w.withFollow "special-get-raises" true) os).map (fun s => HandSHeadRun.looksF R.prog (boot_heap (w.withFollow "special-get-raises" true).params) s.abs) = some true := by
  kernel_rfl
end FHG
end
section
set_option linter.all false
set_option Elab.async false
set_option maxRecDepth 100000
set_option maxHeartbeats 0
namespace FHG
open PySem PySem.W PySem.Calls PyProof.Rows
theorem r2f (w : World) (os : OsState) : (endS (w.withFollow "special-get-raises" false) os).map (fun s => HandSHeadRun.seenQ qv names (importedModules R.prog.main.body) (fun s => xlAt qv [] s && recOk [] s) s.abs) = some (openGood qv names) := by
  kernel_rfl
end FHG
end
section
set_option linter.all false
set_option Elab.async false
set_option maxRecDepth 100000
set_option maxHeartbeats 0
namespace FHG
open PySem PySem.W PySem.Calls PyProof.Rows
theorem r2t (w : World) (os : OsState) : (endS (w.withFollow "special-get-raises" true) os).map (fun s => HandSHeadRun.seenQ qv names (importedModules R.prog.main.body) (fun s => xlAt qv [] s && recOk [] s) s.abs) = some (openGood qv names) := by
  kernel_rfl
end FHG
end
section
set_option linter.all false
set_option Elab.async false
set_option maxRecDepth 100000
set_option maxHeartbeats 0
namespace FHG
open PySem PySem.W PySem.Calls PyProof.Rows
theorem r3f (w : World) (os : OsState) : (endS (w.withFollow "special-get-raises" false) os).map obO = some valO := by
  kernel_rfl
end FHG
end
section
set_option linter.all false
set_option Elab.async false
set_option maxRecDepth 100000
set_option maxHeartbeats 0
namespace FHG
open PySem PySem.W PySem.Calls PyProof.Rows
theorem r3t (w : World) (os : OsState) : (endS (w.withFollow "special-get-raises" true) os).map obO = some valO := by
  kernel_rfl
end FHG
end
section
set_option linter.all false
set_option Elab.async false
set_option maxRecDepth 100000
set_option maxHeartbeats 0
namespace FHG
open PySem PySem.W PySem.Calls PyProof.Rows
theorem run3 {α A B D : Type} {o : Option α} {f : α → A} {g : α → B} {k : α → D} {a : A} {b : B} {d : D} (h1 : o.map f = some a) (h2 : o.map g = some b) (h3 : o.map k = some d) : o.map (fun s => (f s, g s, k s)) = some (a, b, d) := by
  obtain ⟨s, hs, e1⟩ := Option.map_eq_some_iff.mp h1
  rw [hs] at h2 h3
  have e2 : g s = b := Option.some.inj h2
  have e3 : k s = d := Option.some.inj h3
  rw [hs]
  exact congrArg some (Prod.ext e1 (Prod.ext e2 e3))
theorem run_all (w : World) : HandSHeadRun.RunEqS R qv hookO obO 20000 names w := by
  refine byRow2 "special-get-raises" (P := fun w => HandSHeadRun.RunEqS R qv hookO obO 20000 names w) (fun w os => ?_) (fun w os => ?_) w
  · exact run3 (r1f w os) (r2f w os) (r3f w os)
  · exact run3 (r1t w os) (r2t w os) (r3t w os)
end FHG
end
section
set_option linter.all false
set_option Elab.async false
set_option maxRecDepth 100000
set_option maxHeartbeats 0
namespace FHG
open PySem PySem.W PySem.Calls PyProof.Rows L2
def dA : DefRec := ⟨"answers", defArgs (top 202), defBody (top 202), defScope (top 202), (match top 202 with
  | .FunctionDef _ _ _ _ _ _ _ _ _ p => p
  | _ => ⟨0, 0, 0, 0⟩)⟩
theorem fx_tab : R.prog.tablesWhole = true := by decide +kernel
theorem fx_bare : R.prog.bare := ⟨rfl, rfl, rfl, rfl, rfl, fx_tab⟩
theorem lo_road : noRoadLSs { strict := !(importedModules R.prog.main.body).all cThrough.contains, foot := none, bare := (["vars", "dir", "locals"] : List PySem.Str).filter (readsOut R.prog R.prog.main.body) } R.prog.main.body = true := by decide +kernel
theorem lo_names : namesResolve R.prog = true := by decide +kernel
theorem lo_meet : (namesMeet R.prog R.prog.main.body fun _ n => attrL n) = true := by decide +kernel
theorem lo_fence : sreFenced R.prog.main = true := by decide +kernel
theorem lo_mods : ((moduleNames R.prog.main.body).isEmpty || lookedIntoSs (moduleNames R.prog.main.body) R.prog.main.body) = true := by decide +kernel
theorem lo_bound : (R.prog.boundNames.all fun n => !worldNames.contains n) = true := by decide +kernel
theorem and6 {a b c d e f : Bool} (h1 : a = true) (h2 : b = true) (h3 : c = true) (h4 : d = true) (h5 : e = true) (h6 : f = true) : (a && b && c && d && e && f) = true := by
  subst h1 h2 h3 h4 h5 h6
  rfl
theorem lo_all : looksOpen R.prog = true := and6 lo_fence lo_mods lo_names lo_bound lo_road lo_meet
theorem well : R.wellSaid = true := and6 lo_all (by decide +kernel) (by decide +kernel) (by decide +kernel) (by decide +kernel) (by decide +kernel)
theorem fx_e : opening R.prog = plainProg R.prog.main.scope.names := by kernel_rfl
theorem fx_f (s) : fenceModules? R.prog s = some s := by kernel_rfl
theorem fx_def : defOf qv R.name = some (dA, []) := by kernel_rfl
theorem fx_hp : R.prog.theDef R.name = some (dA.params, dA.body, dA.scope) := by kernel_rfl
theorem fx_hk : kwWritten? dA.params.kwonlyargs dA.params.kw_defaults = some [] := by kernel_rfl
theorem fx_ok : (chainsOk qv && opensWell R.prog) = true := by decide +kernel
theorem fx_w : ∃ args, R.pre args = true ∧ WData.layableAll args = true := ⟨[.list [.int 6]], by decide +kernel, by decide +kernel⟩
end FHG
end
section
set_option linter.all false
set_option Elab.async false
set_option maxRecDepth 100000
set_option maxHeartbeats 4000000
namespace FHG
open PySem PySem.Spec PyProof.Rows L2 FH

abbrev vI (l : List Int) : List V := l.map V.int
/-- where the machine's parts lie -/
structure Pt where
  dx : Addr
  ax : Addr
  af : Addr
  am : Addr
  aw : Addr
  gen : Nat
abbrev own (P : Pt) (b : Addr) : Prop := b = P.ax ∨ b = P.af ∨ b = P.am
abbrev mF (P : Pt) (m : M) : List (Str × V) := [("x", .ref P.ax), ("f", .ref P.af), ("frm", .int m.frm), ("fflags", .int m.fflags), ("pc", .int m.pc), ("words", .ref P.aw), ("memory", .ref P.am), ("cause", .int m.cause), ("value", .int m.value)]
structure MAt (C a : Addr) (H : Hp) (P : Pt) (m : M) : Prop where
  ob : H a = some (.ins C P.dx (mF P m))
  hx : H P.ax = some (.lst (vI m.x))
  hf : H P.af = some (.lst (vI m.f))
  hm : H P.am = some (.lst (vI m.mem))
  hw : Rd H P.aw (.lst (vI m.words))
  xf : P.ax ≠ P.af
  xm : P.ax ≠ P.am
  fm : P.af ≠ P.am
  wo : ¬ own P P.aw
  gn : P.gen = m.gen
def Rl (K : PySem.W.Frag) (a : Addr) (Sh : Addr → Prop) (H : Hp) (P : Pt) : PV → V → Prop
  | .non, v => v = .non
  | .bl b, v => v = .bl b
  | .int i, v => v = .int i
  | .tup l, v => ∃ p, v = .ref p ∧ SqT K H p (vI l)
  | .lst l, v => ∃ p, v = .ref p ∧ Rd H p (.lst (vI l)) ∧ ¬ own P p ∧ Sh p
  | .mach, v => v = .ref a
def Rls (K : PySem.W.Frag) (a : Addr) (Sh : Addr → Prop) (H : Hp) (P : Pt) : List PV → List V → Prop
  | [], us => us = []
  | v :: vs, us => ∃ u r, us = u :: r ∧ Rl K a Sh H P v u ∧ Rls K a Sh H P vs r
structure Step (a : Addr) (Sh : Addr → Prop) (H : Hp) (P : Pt) (H' : Hp) (P' : Pt) : Prop where
  keep : ∀ b o, H b = some o → b ≠ a → ¬ own P b → H' b = some o
  part : ∀ b, own P' b → own P b ∨ H b = none
  dom : ∀ b, H b ≠ none → H' b ≠ none
  aw : P'.aw = P.aw ∨ Sh P'.aw
  le : P.gen ≤ P'.gen
  same : P'.gen = P.gen → P'.ax = P.ax ∧ P'.af = P.af ∧ P'.am = P.am
structure ER (K : PySem.W.Frag) (a : Addr) (Sh : Addr → Prop) (H : Hp) (P : Pt) (s : FH.Env) (σ : L2.St) : Prop where
  len : s.length = σ.length
  at_ : ∀ (i : Nat) (v : PV), s[i]? = some (some v) → ∃ u, σ[i]? = some (some u) ∧ Rl K a Sh H P v u
/-- what stays through a body: the class, the error's class, the machine, the heap and its parts at the entry, what is wanted of a fault -/
structure Gh where
  C : Addr
  CF : Addr
  a : Addr
  H_0 : Hp
  P_0 : Pt
  T : Tab
  F : FQ
  E : XK
  Sh : Addr → Prop
  hs : ∀ p, H_0 p = none → Sh p
structure SR (K : PySem.W.Frag) (g : Gh) (s : FH.Env) (m : M) (P : Pt) (σ : L2.St) (H : Hp) : Prop where
  er : ER K g.a g.Sh H P s σ
  ma : MAt g.C g.a H P m
  st : Step g.a g.Sh g.H_0 g.P_0 H P

section
variable {K : PySem.W.Frag} {C a : Addr} {Sh : Addr → Prop} {H H' H2 : Hp} {P P' P2 : Pt} {m m' : M}
theorem MAt.thr (h : MAt C a H P m) : H a ≠ none := fun e => by rw [h.ob] at e; cases e
theorem MAt.no_own (h : MAt C a H P m) {b : Addr} {o : HO} (e : H b = some o) (n : ∀ xs, o ≠ .lst xs) : ¬ own P b := fun z => by
  rcases z with z | z | z
  · rw [z, h.hx] at e
    exact n _ (Option.some.inj e).symm
  · rw [z, h.hf] at e
    exact n _ (Option.some.inj e).symm
  · rw [z, h.hm] at e
    exact n _ (Option.some.inj e).symm
theorem MAt.ne_a (h : MAt C a H P m) {b : Addr} {o : HO} (e : H b = some o) (n : ∀ C dx fs, o ≠ .ins C dx fs) : b ≠ a := fun z => by
  rw [z, h.ob] at e
  exact n _ _ _ (Option.some.inj e).symm
theorem Step.refl (h : H a ≠ none) : Step a Sh H P H P := ⟨fun _ _ e _ _ => e, fun _ h => .inl h, fun _ h => h, .inl rfl, Nat.le_refl _, fun _ => ⟨rfl, rfl, rfl⟩⟩
theorem Step.trans (u : Step a Sh H P H' P') (v : Step a Sh H' P' H2 P2) : Step a Sh H P H2 P2 := by
  have np : ∀ b o, H b = some o → ¬ own P b → ¬ own P' b := fun b o e n z => by
    rcases u.part b z with q | q
    · exact n q
    · rw [e] at q
      cases q
  refine ⟨fun b o e n1 n2 => v.keep b o (u.keep b o e n1 n2) n1 (np b o e n2), fun b z => ?_, fun b h => v.dom b (u.dom b h), ?_, Nat.le_trans u.le v.le, fun e => ?_⟩
  · rcases v.part b z with q | q
    · exact u.part b q
    cases e : H b with
    | none => exact .inr rfl
    | some o => exact absurd q (u.dom b (by rw [e]; exact fun z => nomatch z))
  · rcases v.aw with e | e
    · rw [e]
      exact u.aw
    · exact .inr e
  · have h1 := u.le
    have h2 := v.le
    obtain ⟨a1, a2, a3⟩ := u.same (by omega)
    obtain ⟨b1, b2, b3⟩ := v.same (by omega)
    exact ⟨b1.trans a1, b2.trans a2, b3.trans a3⟩
theorem Step.mono {Sh' : Addr → Prop} (u : Step a Sh' H P H' P') (h : ∀ p, Sh' p → Sh p) : Step a Sh H P H' P' := ⟨u.keep, u.part, u.dom, u.aw.imp (fun e => e) (h _), u.le, u.same⟩
/-- a new object -/
theorem Step.new (h : H a ≠ none) {p : Addr} {o : HO} (n : H p = none) : Step a Sh H P (upd H p o) P := by
  refine ⟨fun b u e _ _ => ?_, fun _ h => .inl h, fun b h => ?_, .inl rfl, Nat.le_refl _, fun _ => ⟨rfl, rfl, rfl⟩⟩
  · rw [upd_ne (fun z => by rw [z, n] at e; cases e)]
    exact e
  · rw [upd_ne (fun z => h (by rw [z]; exact n))]
    exact h
theorem MAt.new (h : MAt C a H P m) {p : Addr} {o : HO} (n : H p = none) : MAt C a (upd H p o) P m := by
  have k : ∀ b u, H b = some u → upd H p o b = some u := fun b u e => by
    rw [upd_ne (fun z => by rw [z, n] at e; cases e)]
    exact e
  refine ⟨k _ _ h.ob, k _ _ h.hx, k _ _ h.hf, k _ _ h.hm, ?_, h.xf, h.xm, h.fm, h.wo, h.gn⟩
  rcases h.hw with e | ⟨o', e⟩
  · exact .inl (k _ _ e)
  · exact .inr ⟨o', k _ _ e⟩
theorem Step.sqT (u : Step a Sh H P H' P') (h : MAt C a H P m) {p : Addr} {l : List V} (q : SqT K H p l) : SqT K H' p l := by
  rcases q with (e | ⟨o, e⟩) | q
  · exact .inl (.inl (u.keep _ _ e (h.ne_a e fun _ _ _ z => nomatch z) (h.no_own e fun _ z => nomatch z)))
  · exact .inl (.inr ⟨o, u.keep _ _ e (h.ne_a e fun _ _ _ z => nomatch z) (h.no_own e fun _ z => nomatch z)⟩)
  · exact .inr q
theorem Step.rdL (u : Step a Sh H P H' P') (h : MAt C a H P m) {p : Addr} {l : List V} (q : Rd H p (.lst l)) (n : ¬ own P p) : Rd H' p (.lst l) ∧ ¬ own P' p := by
  rcases q with e | ⟨o, e⟩
  · refine ⟨.inl (u.keep _ _ e (h.ne_a e fun _ _ _ z => nomatch z) n), fun z => ?_⟩
    rcases u.part p z with q | q
    · exact n q
    · rw [e] at q
      cases q
  · refine ⟨.inr ⟨o, u.keep _ _ e (h.ne_a e fun _ _ _ z => nomatch z) n⟩, fun z => ?_⟩
    rcases u.part p z with q | q
    · exact n q
    · rw [e] at q
      cases q
theorem Rl.step (u : Step a Sh H P H' P') (h : MAt C a H P m) : ∀ {v : PV} {x : V}, Rl K a Sh H P v x → Rl K a Sh H' P' v x
  | .non, _, r => r
  | .bl _, _, r => r
  | .int _, _, r => r
  | .mach, _, r => r
  | .tup _, _, ⟨p, e, q⟩ => ⟨p, e, u.sqT h q⟩
  | .lst _, _, ⟨p, e, q, n, z⟩ => ⟨p, e, (u.rdL h q n).1, (u.rdL h q n).2, z⟩
theorem Rl.sh {Sh' : Addr → Prop} {v : PV} {x : V} (r : Rl K a Sh' H P v x) (h : ∀ p, Sh' p → Sh p) : Rl K a Sh H P v x := by
  cases v <;> first | exact r | skip
  obtain ⟨p, e, h1, h2, z⟩ := r
  exact ⟨p, e, h1, h2, h p z⟩
theorem Rls.step (u : Step a Sh H P H' P') (h : MAt C a H P m) : ∀ {vs : List PV} {us : List V}, Rls K a Sh H P vs us → Rls K a Sh H' P' vs us
  | [], _, r => r
  | _ :: _, _, ⟨x, r, e, q, t⟩ => ⟨x, r, e, q.step u h, Rls.step u h t⟩
theorem ER.step (u : Step a Sh H P H' P') (h : MAt C a H P m) {s : FH.Env} {σ : L2.St} (e : ER K a Sh H P s σ) : ER K a Sh H' P' s σ :=
  ⟨e.len, fun i v q => let ⟨x, q1, r⟩ := e.at_ i v q; ⟨x, q1, r.step u h⟩⟩
theorem ER.set {s : FH.Env} {σ : L2.St} (e : ER K a Sh H P s σ) {v : PV} {x : V} (r : Rl K a Sh H P v x) (i : Nat) : ER K a Sh H P (s.set i (some v)) (σ.set i (some x)) := by
  refine ⟨by rw [List.length_set, List.length_set, e.len], fun j w q => ?_⟩
  by_cases hj : i = j
  · subst hj
    rw [List.getElem?_set] at q
    rw [if_pos rfl] at q
    by_cases hl : i < s.length
    · rw [if_pos hl] at q
      cases q
      exact ⟨x, by rw [List.getElem?_set, if_pos rfl, if_pos (by rw [← e.len]; exact hl)], r⟩
    · rw [if_neg hl] at q
      cases q
  · rw [List.getElem?_set_ne hj] at q
    rw [List.getElem?_set_ne hj]
    exact e.at_ j w q
end
theorem SR.fresh {K : PySem.W.Frag} {g : Gh} {s : FH.Env} {m : M} {P P' : Pt} {σ : L2.St} {H H' : Hp} (S : SR K g s m P σ H) (u : Step g.a g.Sh H P H' P') {p : Addr} (n : H' p = none) : g.Sh p := g.hs p (by
  cases e : g.H_0 p with
  | none => rfl
  | some o => exact absurd n ((S.st.trans u).dom p (by rw [e]; exact fun z => nomatch z)))
theorem SR.step {K : PySem.W.Frag} {g : Gh} {s : FH.Env} {m m' : M} {P P' : Pt} {σ : L2.St} {H H' : Hp} (S : SR K g s m P σ H) (u : Step g.a g.Sh H P H' P') (h : MAt g.C g.a H' P' m') : SR K g s m' P' σ H' :=
  ⟨S.er.step u S.ma, h, S.st.trans u⟩

/-! ### readings -/
def tG (K : PySem.W.Frag) (g : Gh) (e : Ex) : TE := fun σ H Q => ∃ s m P, SR K g s m P σ H ∧ ev g.T g.F e s m fun pv m' => ∀ v H' P', Step g.a g.Sh H P H' P' → MAt g.C g.a H' P' m' → Rl K g.a g.Sh H' P' pv v → Q v H'
def tGT (K : PySem.W.Frag) (g : Gh) (e : Ex) : TT := fun σ H Q => ∃ s m P, SR K g s m P σ H ∧ ev g.T g.F e s m fun pv m' => onBl pv fun b => ∀ H' P', Step g.a g.Sh H P H' P' → MAt g.C g.a H' P' m' → Q b H'
def tGA (K : PySem.W.Frag) (g : Gh) (l : Exs) : TA := fun σ H Q => ∃ s m P, SR K g s m P σ H ∧ evs g.T g.F l s m fun vs m' => ∀ us H' P', Step g.a g.Sh H P H' P' → MAt g.C g.a H' P' m' → Rls K g.a g.Sh H' P' vs us → Q us H'
theorem PE.imp {X : Cx} {e : Expr} {t t' : TE} (p : L2.PE X e t) (h : ∀ σ H Q, t' σ H Q → t σ H Q) : L2.PE X e t' := ⟨fun pins s σ H Q I q => p.run pins s σ H Q I (h _ _ _ q)⟩
theorem PT.imp {X : Cx} {e : Expr} {t t' : TT} (p : L2.PT X e t) (h : ∀ σ H Q, t' σ H Q → t σ H Q) : L2.PT X e t' := ⟨fun pins s σ H Q I q => p.run pins s σ H Q I (h _ _ _ q)⟩
theorem PW.imp {X : Cx} {e : Expr} {t t' : TT} (p : L2.PW X e t) (h : ∀ σ H Q, t' σ H Q → t σ H Q) : L2.PW X e t' := ⟨fun wh pins s σ H Q I q => p.run wh pins s σ H Q I (h _ _ _ q)⟩
theorem PA.imp {X : Cx} {es : List Expr} {t t' : TA} (p : L2.PA X es t) (h : ∀ σ H Q, t' σ H Q → t σ H Q) : L2.PA X es t' := ⟨fun pos pins s σ H Q I q => p.run pos pins s σ H Q I (h _ _ _ q)⟩
section
variable {K : PySem.W.Frag} {g : Gh} {s : FH.Env} {m : M} {P : Pt} {σ : L2.St} {H : Hp}
theorem one {e : Ex} (S : SR K g s m P σ H) {R : PV → M → Prop} (q : ev g.T g.F e s m R) {Q : VK} (h : ∀ x v m1 H1 P1, Step g.a g.Sh H P H1 P1 → MAt g.C g.a H1 P1 m1 → Rl K g.a g.Sh H1 P1 x v → R x m1 → Q v H1) : tG K g e σ H Q :=
  ⟨s, m, P, S, ev_mono e (fun x m1 r v H1 P1 u ma rl => h x v m1 H1 P1 u ma rl r) q⟩
theorem oneT {e : Ex} (S : SR K g s m P σ H) {R : PV → M → Prop} (q : ev g.T g.F e s m R) {Q : Bool → Hp → Prop} (h : ∀ x m1, R x m1 → onBl x fun b => ∀ H1 P1, Step g.a g.Sh H P H1 P1 → MAt g.C g.a H1 P1 m1 → Q b H1) : tGT K g e σ H Q :=
  ⟨s, m, P, S, ev_mono e (fun x m1 r => h x m1 r) q⟩
theorem oneA {l : Exs} (S : SR K g s m P σ H) {R : List PV → M → Prop} (q : evs g.T g.F l s m R) {Q : List V → Hp → Prop} (h : ∀ xs vs m1 H1 P1, Step g.a g.Sh H P H1 P1 → MAt g.C g.a H1 P1 m1 → Rls K g.a g.Sh H1 P1 xs vs → R xs m1 → Q vs H1) : tGA K g l σ H Q :=
  ⟨s, m, P, S, evs_mono l (fun x m1 r v H1 P1 u ma rl => h x v m1 H1 P1 u ma rl r) q⟩
theorem two {a b : Ex} (S : SR K g s m P σ H) {R : PV → PV → M → Prop} (q : ev g.T g.F a s m fun x m1 => ev g.T g.F b s m1 fun y m2 => R x y m2) {Q : V → V → Hp → Prop}
    (h : ∀ x y v w m2 H2 P2, Step g.a g.Sh H P H2 P2 → MAt g.C g.a H2 P2 m2 → Rl K g.a g.Sh H2 P2 x v → Rl K g.a g.Sh H2 P2 y w → R x y m2 → Q v w H2) : tG K g a σ H fun v H1 => tG K g b σ H1 fun w H2 => Q v w H2 :=
  one S q fun x v m1 H1 P1 u ma rl r => one (S.step u ma) r fun y w m2 H2 P2 u2 ma2 rl2 r2 => h x y v w m2 H2 P2 (u.trans u2) ma2 (rl.step u2 ma) rl2 r2
theorem eint {a : Addr} {Sh : Addr → Prop} {K : PySem.W.Frag} {P : Pt} {x : PV} {v : V} {Q : Int → Prop} (r : Rl K a Sh H P x v) (q : onInt x Q) : ∃ i, v = .int i ∧ Q i := by
  cases x <;> first | exact q.elim | exact ⟨_, r, q⟩
theorem ebl {a : Addr} {Sh : Addr → Prop} {K : PySem.W.Frag} {P : Pt} {x : PV} {v : V} {Q : Bool → Prop} (r : Rl K a Sh H P x v) (q : onBl x Q) : ∃ i, v = .bl i ∧ Q i := by
  cases x <;> first | exact q.elim | exact ⟨_, r, q⟩
theorem emach {a : Addr} {Sh : Addr → Prop} {K : PySem.W.Frag} {P : Pt} {x : PV} {v : V} {Q : Prop} (r : Rl K a Sh H P x v) (q : onMach x Q) : v = .ref a ∧ Q := by
  cases x <;> first | exact q.elim | exact ⟨r, q⟩
end
end FHG
end
section
set_option linter.all false
set_option Elab.async false
set_option maxRecDepth 100000
set_option maxHeartbeats 4000000
namespace FHG
open PySem PySem.Spec PyProof.Rows L2 FH

/-! ### the checker -/
structure Nm where
  con : List Str
  ctup : List Str
  dict : List Str
  fn : List Str
  mt : Nat → Bool
def opB : Op2 → Operator
  | .add => .Add
  | .sub => .Sub
  | .mul => .Mult
  | .fdiv => .FloorDiv
  | .mod => .Mod
  | .pow => .Pow
  | .shl => .LShift
  | .shr => .RShift
  | .and => .BitAnd
  | .or => .BitOr
  | .xor => .BitXor
def cpB : Cp → CmpOp
  | .eq => .Eq
  | .ne => .NotEq
  | .lt => .Lt
  | .le => .LtE
  | .gt => .Gt
  | .ge => .GtE
def fldN : Fld → Str
  | .frm => "frm"
  | .fflags => "fflags"
  | .pc => "pc"
  | .cause => "cause"
  | .value => "value"
def partN : Part → Str
  | .x => "x"
  | .f => "f"
  | .mem => "memory"
def attrs : List Str := ["x", "f", "frm", "fflags", "pc", "words", "memory", "cause", "value"]
/-- the forms that the codes have -/
def plainE : Expr → Bool
  | .BoolOp .. | .BinOp .. | .UnaryOp .. | .IfExp .. | .Compare .. | .Call .. | .Constant .. | .Attribute .. | .Subscript .. | .Name .. | .List .. | .Tuple .. => true
  | _ => false
def isVar : Ex → Bool
  | .var _ => true
  | _ => false
/-- no test of ours -/
def isIte : Ex → Bool
  | .not _ | .cmp .. | .chn .. | .isin .. | .indic .. | .conj _ | .disj _ | .var _ | .call .. => false
  | _ => true
def lenX : Exs → Nat
  | .nil => 0
  | .cons _ l => lenX l + 1
def allT : Exs → Bool
  | .nil => true
  | .cons a l => !isIte a && allT l
def dbg : Str := "__debug__"
def cld : Str := "__classdict__"
section
variable (N : List Str) (sc : Scope) (nm : Nm) (lim : Nat)
def chVar (i : Nat) (x : Str) : Bool := decide (N[i]? = some x) && ((decide (sc.names.lookup x = some .local) || decide (sc.names.lookup x = some .cell)) && (!(x == dbg) && !(x == cld)))
def chGl (x : Str) : Bool := decide (sc.names.lookup x = some .globalImplicit) && !(x == dbg)
def chB (x y : Str) : Bool := decide (x = y) && chGl sc y
mutual
def ch : Ex → Expr → Bool
  | .var i, e => (match e with
    | .Name x _ => chVar N sc i x
    | _ => false)
  | .int i, e => (match e with
    | .Constant (.int j) _ _ => decide (j = i)
    | _ => false)
  | .bl b, e => (match e with
    | .Constant (.bool c) _ _ => decide (c = b)
    | _ => false)
  | .con k, e => (match e with
    | .Name x _ => decide (nm.con[k]? = some x) && chGl sc x
    | _ => false)
  | .bin o a b, e => (match e with
    | .BinOp x p y _ => decide (p = opB o) && (ch a x && ch b y)
    | _ => false)
  | .neg a, e => (match e with
    | .UnaryOp .USub x _ => ch a x
    | _ => false)
  | .inv a, e => (match e with
    | .UnaryOp .Invert x _ => ch a x
    | _ => false)
  | .not a, e => (match e with
    | .UnaryOp .Not x _ => !isIte a && ch a x
    | _ => false)
  | .cmp o a b, e => (match e with
    | .Compare x [p] [y] _ => decide (p = cpB o) && (ch a x && ch b y)
    | _ => false)
  | .chn o p a b c, e => (match e with
    | .Compare x [o', p'] [y, z] _ => decide (o' = cpB o) && (decide (p' = cpB p) && (plainE z && (ch a x && (ch b y && ch c z))))
    | _ => false)
  | .isin n a l, e => (match e with
    | .Compare x [p] [.Tuple es _ _] _ => decide (p = if n = true then .NotIn else .In) && (decide (lenX l ≤ 20) && (ch a x && chs l es))
    | _ => false)
  | .indic a d, e => (match e with
    | .Compare x [.In] [.Name y _] _ => decide (nm.dict[d]? = some y) && (chGl sc y && ch a x)
    | _ => false)
  | .diget d a, e => (match e with
    | .Subscript (.Name y _) x _ => decide (nm.dict[d]? = some y) && (chGl sc y && (plainE x && ch a x))
    | _ => false)
  | .conj l, e => (match e with
    | .BoolOp .And es _ => allT l && chs l es
    | _ => false)
  | .disj l, e => (match e with
    | .BoolOp .Or es _ => allT l && chs l es
    | _ => false)
  | .ite c a b, e => (match e with
    | .IfExp t x y _ => !isIte c && (ch c t && (ch a x && ch b y))
    | _ => false)
  | .call j l, e => (match e with
    | .Call (.Name x _) (y :: ys) [] _ => decide (j < lim) && (!nm.mt j && (decide (nm.fn[j]? = some x) && (chGl sc x && chs l (y :: ys))))
    | _ => false)
  | .meth j o l, e => (match e with
    | .Call (.Attribute (.Name z pz) x ap) (y :: ys) [] pos => decide (j < lim) && (nm.mt j && (decide (nm.fn[j]? = some x) && ((ap.endLine == pos.line) && (decide (lenX l ≤ 20) && (ch o (.Name z pz) && chs l (y :: ys))))))
    | _ => false)
  | .meth0 j o, e => (match e with
    | .Call (.Attribute (.Name z pz) x ap) [] [] pos => decide (j < lim) && (nm.mt j && (decide (nm.fn[j]? = some x) && ((ap.endLine == pos.line) && ch o (.Name z pz))))
    | _ => false)
  | .bits a, e => (match e with
    | .Call (.Attribute x f ap) [] [] pos => decide (f = "bit_length") && ((ap.endLine == pos.line) && ((match x with
      | .Name _ _ => true
      | .Call (.Name _ _) (_ :: _) [] _ => true
      | _ => false) && ch a x))
    | _ => false)
  | .max2 a b, e => (match e with
    | .Call (.Name f _) [x, y] [] _ => chB sc f "max" && (plainE x && (plainE y && (ch a x && ch b y)))
    | _ => false)
  | .min2 a b, e => (match e with
    | .Call (.Name f _) [x, y] [] _ => chB sc f "min" && (plainE x && (plainE y && (ch a x && ch b y)))
    | _ => false)
  | .abs a, e => (match e with
    | .Call (.Name f _) [x] [] _ => chB sc f "abs" && (plainE x && ch a x)
    | _ => false)
  | .dvm a b, e => (match e with
    | .Call (.Name f _) [x, y] [] _ => chB sc f "divmod" && (plainE x && (plainE y && (ch a x && ch b y)))
    | _ => false)
  | .len a, e => (match e with
    | .Call (.Name f _) [x] [] _ => chB sc f "len" && (plainE x && ch a x)
    | _ => false)
  | .tolist a, e => (match e with
    | .Call (.Name f _) [x] [] _ => chB sc f "list" && (plainE x && ch a x)
    | _ => false)
  | .ctup t a, e => (match e with
    | .Subscript (.Name y _) x _ => decide (nm.ctup[t]? = some y) && (chGl sc y && (plainE x && ch a x))
    | _ => false)
  | .at_ a i, e => (match e with
    | .Subscript x y _ => plainE y && (ch a x && ch i y)
    | _ => false)
  | .from_ a k, e => (match e with
    | .Subscript x (.Slice (some (.Constant (.int j) _ _)) none none _) _ => decide (j = (k : Int)) && ch a x
    | _ => false)
  | .cutl a lo hi, e => (match e with
    | .Subscript x (.Slice (some y) (some z) none _) _ => ch a x && (ch lo y && ch hi z)
    | _ => false)
  | .tup l, e => (match e with
    | .Tuple es _ _ => decide (lenX l ≤ 20) && chs l es
    | _ => false)
  | .lst l, e => (match e with
    | .List es _ => decide (lenX l ≤ 20) && chs l es
    | _ => false)
  | .cat a b, e => (match e with
    | .BinOp x p y _ => decide (p = .Add) && (ch a x && ch b y)
    | _ => false)
  | .fld f o, e => (match e with
    | .Attribute (.Name z pz) y _ => decide (y = fldN f) && ch o (.Name z pz)
    | _ => false)
  | .part p o i, e => (match e with
    | .Subscript (.Attribute (.Name z pz) y _) x _ => decide (y = partN p) && (plainE x && (ch o (.Name z pz) && ch i x))
    | _ => false)
  | .wlen o, e => (match e with
    | .Call (.Name f _) [.Attribute (.Name z pz) y _] [] _ => chB sc f "len" && (decide (y = "words") && ch o (.Name z pz))
    | _ => false)
  | .word o i, e => (match e with
    | .Subscript (.Attribute (.Name z pz) y _) x _ => decide (y = "words") && (plainE x && (ch o (.Name z pz) && ch i x))
    | _ => false)
  | .pcut o lo hi, e => (match e with
    | .Subscript (.Attribute (.Name z pz) y _) (.Slice (some u) (some w) none _) _ => decide (y = "memory") && (ch o (.Name z pz) && (ch lo u && ch hi w))
    | _ => false)
def chs : Exs → List Expr → Bool
  | .nil, es => (match es with
    | [] => true
    | _ => false)
  | .cons a l, es => (match es with
    | x :: xs => plainE x && (ch a x && chs l xs)
    | _ => false)
end
end

/-! ### what the forms have -/
theorem plain_star {e : Expr} {es : List Expr} {env : PySem.Env} (h : plainE e = true) : starEach (e :: es) env = (false, eval e env) :: starEach es env := by
  cases e <;> first | rfl | cases h
theorem plain_ix {e : Expr} (h : plainE e = true) : PlainIx e := by
  intro o i
  cases e <;> first | rfl | cases h
theorem plain_mark {e : Expr} {op : CmpOp} (h : plainE e = true) : behindInMarks op e = false := by
  cases e <;> first | rfl | cases h
theorem plain_swap {e : Expr} {t : Option Expr} {l : Nat} {env : PySem.Env} (h : plainE e = true) : swapsWith e t l env = pure false := by
  cases e <;> first | rfl | cases h
theorem plain_sole {e t : Expr} {l : Nat} {env : PySem.Env} (h : plainE e = true) : swapsWithSole [t] e l env = pure false := by
  cases e <;> first | rfl | cases h
theorem chs_none {N : List Str} {sc : Scope} {nm : Nm} {lim : Nat} {pos : Pos} {env : PySem.Env} : ∀ {l : Exs} {es : List Expr}, chs N sc nm lim l es = true → (backTo pos (starEach es env)).any (·.1) = false
  | .nil, es, h => by
    cases es with
    | nil => rfl
    | cons _ _ => unfold chs at h; cases h
  | .cons a l, es, h => by
    cases es with
    | nil => unfold chs at h; cases h
    | cons x xs =>
      unfold chs at h
      simp only [Bool.and_eq_true] at h
      rw [plain_star h.1]
      show ((false, _) :: backTo pos (starEach xs env)).any (·.1) = false
      rw [List.any_cons, chs_none h.2.2]
      rfl
theorem chs_len {N : List Str} {sc : Scope} {nm : Nm} {lim : Nat} : ∀ {l : Exs} {es : List Expr}, chs N sc nm lim l es = true → es.length = lenX l
  | .nil, es, h => by
    cases es with
    | nil => rfl
    | cons _ _ => unfold chs at h; cases h
  | .cons a l, es, h => by
    cases es with
    | nil => unfold chs at h; cases h
    | cons x xs =>
      unfold chs at h
      simp only [Bool.and_eq_true] at h
      rw [List.length_cons, chs_len h.2.2]
      rfl
theorem meth_ev {N : List Str} {sc : Scope} {nm : Nm} {lim : Nat} {z m : Str} {pz ap pos : Pos} {es : List Expr} {l : Exs} {env : PySem.Env} (hl : (ap.endLine == pos.line) = true) (h : chs N sc nm lim l es = true) (hn : lenX l ≤ 20) :
    eval (.Call (.Attribute (.Name z pz) m ap) es [] pos) env = (do
      let ov ← eval (.Name z pz) env
      standAt ap.atName
      let (f, first) ← holding [ov] (getMethod ov m (do return (← importBound (.Name z pz) env).getD true))
      callWith pos f first (backTo pos (starEach es env)) (backToKw pos (keywordEach [] env))) := by
  have e1 : (backTo pos (starEach es env)).all (fun x => !x.1) = true := by
    have q := chs_none (pos := pos) (env := env) h
    rw [List.any_eq_false] at q
    rw [List.all_eq_true]
    intro x hx
    have := q x hx
    simpa using this
  have e2 : methodCallForm (es.length + ([] : List Keyword).length) (backTo pos (starEach es env)) (backToKw pos (keywordEach [] env)) = true := by
    unfold methodCallForm
    rw [e1]
    show (true && true && decide (es.length + 0 + 0 < 30)) = true
    rw [chs_len h]
    simp
    omega
  show (do
    let ov ← eval (.Name z pz) env
    standAt ap.atName
    methodCall (.Name z pz) m ap pos env ov (es.length + ([] : List Keyword).length) (backTo pos (starEach es env)) (backToKw pos (keywordEach [] env))) = _
  unfold methodCall
  rw [e2]
  have e3 : methodCallPos true (.Name z pz) env ap pos = pure pos := by
    unfold methodCallPos
    rw [hl]
    rfl
  rw [e3]
  rfl
end FHG
end
section
set_option linter.all false
set_option Elab.async false
set_option maxRecDepth 100000
set_option maxHeartbeats 4000000
namespace FHG
open PySem PySem.Spec PyProof.Rows L2 FH

/-- the lists among the arguments -/
def lstIn : List PV → List V → Addr → Prop
  | .lst _ :: vs, u :: us, p => u = .ref p ∨ lstIn vs us p
  | _ :: vs, _ :: us, p => lstIn vs us p
  | _, _, _ => False
def ShA (args : List PV) (vs : List V) (H : Hp) (p : Addr) : Prop := lstIn args vs p ∨ H p = none
theorem lstIn_sh {K : PySem.W.Frag} {a : Addr} {Sh : Addr → Prop} {H : Hp} {P : Pt} : ∀ {vs : List PV} {us : List V} {p : Addr}, Rls K a Sh H P vs us → lstIn vs us p → Sh p
  | [], _, _, _, h => by cases h
  | v :: vs, us, p, ⟨u, r, e1, r1, r2⟩, h => by
    subst e1
    cases v <;> first | exact lstIn_sh r2 h | skip
    rcases h with h | h
    · obtain ⟨q, e, _, _, z⟩ := r1
      rw [h] at e
      cases e
      exact z
    · exact lstIn_sh r2 h
theorem Rls.own_sh {K : PySem.W.Frag} {a : Addr} {Sh Sh' : Addr → Prop} {H : Hp} {P : Pt} : ∀ {vs : List PV} {us : List V}, Rls K a Sh H P vs us → (∀ p, lstIn vs us p → Sh' p) → Rls K a Sh' H P vs us
  | [], _, r, _ => r
  | v :: vs, us, ⟨u, r, e1, r1, r2⟩, h => by
    subst e1
    refine ⟨u, r, rfl, ?_, Rls.own_sh r2 fun p hp => h p ?_⟩
    · cases v <;> first | exact r1 | skip
      obtain ⟨q, e, h1, h2, _⟩ := r1
      exact ⟨q, e, h1, h2, h q (.inl e)⟩
    · cases v <;> first | exact hp | exact .inr hp
/-- the promise of a def -/
def spG (K : PySem.W.Frag) (C CF : Addr) (d : Def) : Sp := fun vs H Q E => ∃ (a : Addr) (args : List PV) (m : M) (P : Pt), Rls K a (ShA args vs H) H P args vs ∧ MAt C a H P m ∧ d.pre args m ∧
  (∀ pv m', d.fn args m = (.ok pv, m') → ∀ v H' P', Step a (ShA args vs H) H P H' P' → MAt C a H' P' m' → Rl K a (ShA args vs H) H' P' pv v → Q v H') ∧
  (∀ c w m', d.fn args m = (.flt c w, m') → ∀ x H' P', Step a (ShA args vs H) H P H' P' → MAt C a H' P' m' → H' x = some (.xd [("value", .int w), ("cause", .int c)]) → E (.ref CF) (some x) H')
def noBlt : List Str := ["len", "max", "min", "abs", "divmod", "list", "range", "enumerate", "zip"]
/-- what a body stands on -/
structure Bd (X : Cx) (g : Gh) (N : List Str) (sc : Scope) (nm : Nm) (lim : Nat) : Prop where
  N : X.N = N
  sc : X.env.scope = sc
  nd : X.N.Nodup
  fnT : ∀ x, X.fn x = true
  calm : X.calm = true
  hu : X.A.units + 1 < cLine
  con : ∀ k x, nm.con[k]? = some x → ∃ t, X.mg x = some (.int (g.T.con k) t)
  ctup : ∀ k x, nm.ctup[k]? = some x → ∃ p, X.mg x = some (.ref p) ∧ ∀ H, SqT X.K H p (vI (g.T.ctup k))
  dict : ∀ k x, nm.dict[k]? = some x → ∃ p, X.mg x = some (.ref p) ∧ OpR X (compareOp .In) (fun u v H Q => ∃ i, u = .int i ∧ v = .ref p ∧ Q (.bl (dig (g.T.dict k) i).isSome) H) ∧
    IxR X (fun u v H Q => ∃ i pv, u = .ref p ∧ v = .int i ∧ dig (g.T.dict k) i = some pv ∧ ∀ z, (∀ a Sh P, Rl X.K a Sh H P pv z) → Q z H)
  blt : ∀ x, x ∈ noBlt → X.mg x = none
  cl : Cls X.K g.C
  na : ∀ f, f ∈ attrs → NoAttr X.K g.C f
  fn : ∀ j x, j < lim → nm.mt j = false → nm.fn[j]? = some x → ∃ f fd ps k, FnOk X.prog X.w X.K X.mg X.base (L2.CX X.prog X.w) k f fd ps (spG X.K g.C g.CF (g.T.fn j)) ∧ Room k X.A ∧ X.mg x = some (.ref f) ∧ PySem.W.keepIn X.K (.ref f) = true ∧ Binds X.K fd ps []
  mt : ∀ j x, j < lim → nm.mt j = true → nm.fn[j]? = some x → ∃ f fd ps k, FnOk X.prog X.w X.K X.mg X.base (L2.CX X.prog X.w) k f fd ps (spG X.K g.C g.CF (g.T.fn j)) ∧ Room k X.A ∧ Meth X.K g.C x f ∧ Binds X.K fd ps [] ∧ ∀ P m, (mF P m).lookup x = none
  tk : Takes X (fun cls d _ H => g.E cls d H)
  po : PassesOwn (model X.prog X.w) X.A X.env X.xe
  flt : ∀ (e1 e2 : Expr) (t1 t2 : TE) (p pos : Pos), plainE e1 = true → plainE e2 = true → Gl X "Fault" → L2.PE X e1 t1 → L2.PE X e2 t2 →
    PMk X (.Call (.Name "Fault" p) [e1, e2] [] pos) (fun σ H Q => t1 σ H fun u H1 => t2 σ H1 fun v H2 => ∀ d, H2 d = none → Q (.ref g.CF) (some d) (upd H2 d (.xd [("value", v), ("cause", u)])))
  fl : ∀ c w m' x H' P', g.F c w m' → Step g.a g.Sh g.H_0 g.P_0 H' P' → MAt g.C g.a H' P' m' → H' x = some (.xd [("value", .int w), ("cause", .int c)]) → g.E (.ref g.CF) (some x) H'

section
variable {X : Cx} {g : Gh} {N : List Str} {sc : Scope} {nm : Nm} {lim : Nat} {a b c : Ex} {l : Exs} {x y z : Expr} {p q pos : Pos}
theorem gl_of {f : Str} (B : Bd X g N sc nm lim) (h : chGl sc f = true) : Gl X f ∧ (f == ("__debug__" : Str)) = false := by
  unfold chGl at h
  simp only [Bool.and_eq_true, decide_eq_true_eq, Bool.not_eq_true'] at h
  refine ⟨?_, h.2⟩
  show X.env.scope.names.lookup f = _
  rw [B.sc]
  exact h.1
theorem l_var (B : Bd X g N sc nm lim) {i : Nat} {f : Str} (h : chVar N sc i f = true) : L2.PE X (.Name f p) (tG X.K g (.var i)) := by
  unfold chVar at h
  simp only [Bool.and_eq_true, decide_eq_true_eq, Bool.not_eq_true'] at h
  obtain ⟨h1, h2, h3, h4⟩ := h
  refine PE.imp (pe_var (i := i) (by rw [B.N]; exact h1) (by rcases Bool.or_eq_true_iff.mp h2 with h2 | h2; exact .inl (by rw [B.sc]; exact of_decide_eq_true h2); exact .inr (.inl (by rw [B.sc]; exact of_decide_eq_true h2))) h3 h4) fun σ H Q ⟨s, m, P, S, q⟩ => ?_
  unfold ev at q
  cases e : getS s i with
  | none =>
    rw [e] at q
    exact q.elim
  | some v =>
    rw [e] at q
    have e2 : s[i]? = some (some v) := by
      unfold getS at e
      split at e <;> first | (cases e; assumption) | cases e
    obtain ⟨u, e3, r⟩ := S.er.at_ i v e2
    exact ⟨u, e3, q u H P (Step.refl S.ma.thr) S.ma r⟩
theorem l_int {i : Int} {k : Nat} : L2.PE X (.Constant (.int i) k p) (tG X.K g (.int i)) := PE.imp pe_int fun σ H Q ⟨s, m, P, S, q⟩ => by
  unfold ev at q
  exact q _ H P (Step.refl S.ma.thr) S.ma rfl
theorem l_bl {i : Bool} {k : Nat} : L2.PE X (.Constant (.bool i) k p) (tG X.K g (.bl i)) := PE.imp pe_bl fun σ H Q ⟨s, m, P, S, q⟩ => by
  unfold ev at q
  exact q _ H P (Step.refl S.ma.thr) S.ma rfl
theorem l_con (B : Bd X g N sc nm lim) {k : Nat} {f : Str} (h : nm.con[k]? = some f) (h2 : chGl sc f = true) : L2.PE X (.Name f p) (tG X.K g (.con k)) := by
  obtain ⟨t, e⟩ := B.con k f h
  obtain ⟨h3, h4⟩ := gl_of B h2
  refine PE.imp (pe_glob (v := .int (g.T.con k)) h3 e ⟨t, rfl⟩ h4) fun σ H Q ⟨s, m, P, S, q⟩ => ?_
  unfold ev at q
  exact q _ H P (Step.refl S.ma.thr) S.ma rfl
/-- an operator -/
theorem l_op {o : Op2} {r : R2} (hr : ∀ (i j : Int) (H : Hp) (Q : VK) (W : PV → Prop), op2 o (.int i) (.int j) W → (∀ v, W (.int v) → Q (.int v) H) → r (.int i) (.int j) H Q) (ho : OpR X (binaryOp (opB o)) r) (ha : L2.PE X x (tG X.K g a)) (hb : L2.PE X y (tG X.K g b)) :
    L2.PE X (.BinOp x (opB o) y p) (tG X.K g (.bin o a b)) := by
  refine PE.imp (pe_op ho ha hb) fun σ H Q ⟨s, m, P, S, q⟩ => ?_
  unfold ev at q
  refine two S q fun u v x' y' m2 H2 P2 st ma r1 r2 q => ?_
  cases u <;> cases v <;> first | exact q.elim | skip
  have e1 : x' = .int _ := r1
  have e2 : y' = .int _ := r2
  subst e1 e2
  exact hr _ _ _ _ _ q fun v w => w _ H2 P2 st ma rfl
theorem l_bin {o : Op2} (ha : L2.PE X x (tG X.K g a)) (hb : L2.PE X y (tG X.K g b)) : L2.PE X (.BinOp x (opB o) y p) (tG X.K g (.bin o a b)) := by
  cases o with
  | add => exact l_op (o := .add) (fun i j H Q W h k => ⟨i, j, rfl, rfl, k _ h⟩) op_add ha hb
  | sub => exact l_op (o := .sub) (fun i j H Q W h k => ⟨i, j, rfl, rfl, k _ h⟩) op_sub ha hb
  | mul => exact l_op (o := .mul) (fun i j H Q W h k => ⟨i, j, rfl, rfl, h.1, k _ h.2⟩) op_mulX ha hb
  | fdiv => exact l_op (o := .fdiv) (fun i j H Q W h k => ⟨i, j, rfl, rfl, h.1, k _ h.2⟩) op_fdivW ha hb
  | mod => exact l_op (o := .mod) (fun i j H Q W h k => ⟨i, j, rfl, rfl, h.1, k _ h.2⟩) op_mod ha hb
  | pow => exact l_op (o := .pow) (fun i j H Q W h k => ⟨i, j, rfl, rfl, h.1, k _ h.2⟩) op_pow ha hb
  | shl => exact l_op (o := .shl) (fun i j H Q W h k => ⟨i, j, rfl, rfl, h.1, k _ h.2⟩) op_shlW ha hb
  | shr => exact l_op (o := .shr) (fun i j H Q W h k => ⟨i, j, rfl, rfl, h.1, k _ h.2⟩) op_shr ha hb
  | and => exact l_op (o := .and) (fun i j H Q W h k => ⟨i, j, rfl, rfl, k _ h⟩) op_and ha hb
  | or => exact l_op (o := .or) (fun i j H Q W h k => ⟨i, j, rfl, rfl, k _ h⟩) op_or ha hb
  | xor => exact l_op (o := .xor) (fun i j H Q W h k => ⟨i, j, rfl, rfl, k _ h⟩) op_xor ha hb
theorem l_neg (ha : L2.PE X x (tG X.K g a)) : L2.PE X (.UnaryOp .USub x p) (tG X.K g (.neg a)) := by
  refine PE.imp (pe_un un_neg ha) fun σ H Q ⟨s, m, P, S, q⟩ => ?_
  unfold ev at q
  refine one S q fun u v m1 H1 P1 st ma r q => ?_
  obtain ⟨i, e, q⟩ := eint r q
  exact ⟨i, e, q _ H1 P1 st ma rfl⟩
theorem l_inv (ha : L2.PE X x (tG X.K g a)) : L2.PE X (.UnaryOp .Invert x p) (tG X.K g (.inv a)) := by
  refine PE.imp (pe_un un_inv ha) fun σ H Q ⟨s, m, P, S, q⟩ => ?_
  unfold ev at q
  refine one S q fun u v m1 H1 P1 st ma r q => ?_
  obtain ⟨i, e, q⟩ := eint r q
  exact ⟨i, e, q _ H1 P1 st ma rfl⟩
theorem l_not (ha : L2.PE X x (tG X.K g a)) : L2.PE X (.UnaryOp .Not x p) (tG X.K g (.not a)) := by
  refine PE.imp (pe_not ha) fun σ H Q ⟨s, m, P, S, q⟩ => ?_
  unfold ev at q
  refine one S q fun u v m1 H1 P1 st ma r q => ?_
  obtain ⟨i, e, q⟩ := ebl r q
  exact ⟨i, e, q _ H1 P1 st ma rfl⟩
theorem lt_not (ha : L2.PT X x (tGT X.K g a)) : L2.PT X (.UnaryOp .Not x p) (tGT X.K g (.not a)) := by
  refine PT.imp (pt_not ha) fun σ H Q ⟨s, m, P, S, q⟩ => ?_
  unfold ev at q
  refine oneT S q fun u m1 q => ?_
  exact onBl_mono (fun v r H1 P1 st ma => r H1 P1 st ma) q
/-- what a comparison's rule asks -/
def cR : Cp → R2
  | .eq => rEq
  | .ne => rNe
  | .lt => rI0 fun i j => .bl (decide (i < j))
  | .le => rI0 fun i j => .bl (decide (i ≤ j))
  | .gt => rI0 fun i j => .bl (decide (j < i))
  | .ge => rI0 fun i j => .bl (decide (j ≤ i))
theorem cR_ok (o : Cp) : OpR X (compareOp (cpB o)) (cR o) := by
  cases o with
  | eq => exact op_eq
  | ne => exact op_ne
  | lt => exact op_lt
  | le => exact op_le
  | gt => exact op_gt
  | ge => exact op_ge
theorem cp_mark (o : Cp) (e : Expr) : behindInMarks (cpB o) e = false := by
  cases o <;> exact nomark e
theorem cR_of {K : PySem.W.Frag} {a : Addr} {Sh : Addr → Prop} {H : Hp} {P : Pt} {o : Cp} {u v : PV} {x y : V} {W : Bool → Prop} {Q : VK} (r1 : Rl K a Sh H P u x) (r2 : Rl K a Sh H P v y) (q : cp2 o u v W) (h : ∀ k, W k → Q (.bl k) H) : cR o x y H Q := by
  cases u <;> cases v <;> first | exact q.elim | skip
  · have e1 : x = .bl _ := r1
    have e2 : y = .bl _ := r2
    subst e1 e2
    cases o <;> first | exact q.elim | skip
    · exact ⟨rfl, by rw [dec_bl, Bool.beq_eq_decide_eq]; exact h _ q⟩
    · exact ⟨rfl, by rw [dec_bl, Bool.beq_eq_decide_eq]; exact h _ q⟩
  · have e1 : x = .int _ := r1
    have e2 : y = .int _ := r2
    subst e1 e2
    cases o
    · exact ⟨rfl, by rw [dec_int, Bool.beq_eq_decide_eq]; exact h _ q⟩
    · exact ⟨rfl, by rw [dec_int, Bool.beq_eq_decide_eq]; exact h _ q⟩
    · exact ⟨_, _, rfl, rfl, h _ q⟩
    · exact ⟨_, _, rfl, rfl, h _ q⟩
    · exact ⟨_, _, rfl, rfl, h _ q⟩
    · exact ⟨_, _, rfl, rfl, h _ q⟩
theorem l_cmp {o : Cp} (ha : L2.PE X x (tG X.K g a)) (hb : L2.PE X y (tG X.K g b)) : L2.PE X (.Compare x [cpB o] [y] p) (tG X.K g (.cmp o a b)) := by
  refine PE.imp (pe_cmpR (cR_ok o) ha hb (cp_mark o y)) fun σ H Q ⟨s, m, P, S, q⟩ => ?_
  unfold ev at q
  exact two S q fun u v x' y' m2 H2 P2 st ma r1 r2 q => cR_of r1 r2 q fun k w => w _ H2 P2 st ma rfl
theorem lt_cmp {o : Cp} (ha : L2.PE X x (tG X.K g a)) (hb : L2.PE X y (tG X.K g b)) : L2.PT X (.Compare x [cpB o] [y] p) (tGT X.K g (.cmp o a b)) := by
  refine PT.imp (pt_cmpR (cR_ok o) ha hb (cp_mark o y)) fun σ H Q ⟨s, m, P, S, q⟩ => ?_
  unfold ev at q
  exact two S q fun u v x' y' m2 H2 P2 st ma r1 r2 q => cR_of r1 r2 q fun k w => ⟨k, rfl, w H2 P2 st ma⟩
theorem chain_mark {o : Cp} {e : Expr} (f : Expr) (o' : Cp) (h : plainE e = true) : lastMarks [cpB o', cpB o] [f, e] = false := by
  show behindInMarks (cpB o) e = false
  exact cp_mark o e
theorem l_chn {o o' : Cp} (ha : L2.PE X x (tG X.K g a)) (hb : L2.PE X y (tG X.K g b)) (hc : L2.PE X z (tG X.K g c)) (hz : plainE z = true) : L2.PE X (.Compare x [cpB o, cpB o'] [y, z] p) (tG X.K g (.chn o o' a b c)) := by
  refine PE.imp (pe_chain (cR_ok o) (cR_ok o') ha hb hc (chain_mark y o hz)) fun σ H Q ⟨s, m, P, S, q⟩ => ?_
  unfold ev at q
  refine two S q fun u v x' y' m2 H2 P2 st ma r1 r2 q => cR_of r1 r2 q fun k w => ⟨k, rfl, ?_⟩
  cases k with
  | false => exact w _ H2 P2 st ma rfl
  | true =>
    exact one (S.step st ma) w fun u3 v3 m3 H3 P3 st3 ma3 r3 q3 => cR_of (r2.step st3 ma) r3 q3 fun k w => w _ H3 P3 (st.trans st3) ma3 rfl
theorem lt_chn {o o' : Cp} (ha : L2.PE X x (tG X.K g a)) (hb : L2.PE X y (tG X.K g b)) (hc : L2.PE X z (tG X.K g c)) (hz : plainE z = true) : L2.PT X (.Compare x [cpB o, cpB o'] [y, z] p) (tGT X.K g (.chn o o' a b c)) := by
  refine PT.imp (pt_chain (cR_ok o) (cR_ok o') ha hb hc (chain_mark y o hz)) fun σ H Q ⟨s, m, P, S, q⟩ => ?_
  unfold ev at q
  refine two S q fun u v x' y' m2 H2 P2 st ma r1 r2 q => cR_of r1 r2 q fun k w => ⟨k, rfl, ?_⟩
  cases k with
  | false => exact ⟨_, rfl, w H2 P2 st ma⟩
  | true =>
    exact one (S.step st ma) w fun u3 v3 m3 H3 P3 st3 ma3 r3 q3 => cR_of (r2.step st3 ma) r3 q3 fun k w => ⟨_, rfl, w H3 P3 (st.trans st3) ma3⟩
/-- values that are ints -/
theorem rls_ints {K : PySem.W.Frag} {a : Addr} {Sh : Addr → Prop} {H : Hp} {P : Pt} : ∀ {vs : List PV} {us : List V} {ns : List Int}, Rls K a Sh H P vs us → intsOf vs = some ns → us = vI ns ∧ ns.length = vs.length
  | [], us, ns, r, e => by
    cases e
    exact ⟨r, rfl⟩
  | v :: vs, us, ns, ⟨u, r, e1, r1, r2⟩, e => by
    cases v <;> first | cases e | skip
    rename_i i
    have e' : (intsOf vs).map (fun l => i :: l) = some ns := e
    cases q : intsOf vs with
    | none => rw [q] at e'; cases e'
    | some l =>
      rw [q] at e'
      cases e'
      obtain ⟨e3, e4⟩ := rls_ints r2 q
      have e5 : u = .int i := r1
      rw [e1, e5, e3]
      exact ⟨rfl, congrArg (· + 1) e4⟩
theorem e_ints {K : PySem.W.Frag} {a : Addr} {Sh : Addr → Prop} {H : Hp} {P : Pt} {vs : List PV} {us : List V} {Q : List Int → Prop} (r : Rls K a Sh H P vs us) (q : onInts vs Q) : ∃ ns, us = vI ns ∧ ns.length = vs.length ∧ Q ns := by
  unfold onInts at q
  split at q
  · rename_i ns e
    obtain ⟨h1, h2⟩ := rls_ints r e
    exact ⟨ns, h1, h2, q⟩
  · exact q.elim
theorem rls_len {K : PySem.W.Frag} {a : Addr} {Sh : Addr → Prop} {H : Hp} {P : Pt} : ∀ {vs : List PV} {us : List V}, Rls K a Sh H P vs us → us.length = vs.length
  | [], us, r => by
    have e : us = [] := r
    rw [e]
    rfl
  | v :: vs, us, ⟨u, r, e1, r1, r2⟩ => by
    rw [e1, List.length_cons, rls_len r2]
    rfl
theorem in_ints (i : Int) (ns : List Int) : inV (.int i) (vI ns) = ns.contains i := by
  unfold inV
  rw [List.any_map]
  induction ns with
  | nil => rfl
  | cons n ns ih =>
    rw [List.any_cons, ih, List.contains_cons]
    congr 1
    show (n == i) = (i == n)
    rw [Bool.eq_iff_iff, beq_iff_eq, beq_iff_eq]
    exact eq_comm
theorem flat_ints (ns : List Int) : (vI ns).all flatV = true := by
  rw [List.all_map]
  induction ns with
  | nil => rfl
  | cons n ns ih => rw [List.all_cons, ih]; rfl
/-- a tuple of ints, new -/
theorem tup_new {K : PySem.W.Frag} {a : Addr} {Sh : Addr → Prop} {H : Hp} {P : Pt} {ns : List Int} {p : Addr} : Rl K a Sh (upd H p (.tup (vI ns))) P (.tup ns) (.ref p) := ⟨p, rfl, .of upd_same⟩
theorem lst_new {K : PySem.W.Frag} {C a : Addr} {Sh : Addr → Prop} {H : Hp} {P : Pt} {m : M} {ns : List Int} {p : Addr} (h : MAt C a H P m) (n : H p = none) (hS : Sh p) : Rl K a Sh (upd H p (.lst (vI ns))) P (.lst ns) (.ref p) := by
  refine ⟨p, rfl, .inl upd_same, fun z => ?_, hS⟩
  rcases z with z | z | z
  · rw [z, h.hx] at n; cases n
  · rw [z, h.hf] at n; cases n
  · rw [z, h.hm] at n; cases n
theorem evs_len {T : Tab} {F : FQ} : ∀ (l : Exs) {s : FH.Env} {m : M} {Q : List PV → M → Prop}, evs T F l s m Q → evs T F l s m fun vs m' => vs.length = lenX l ∧ Q vs m'
  | .nil, s, m, Q, q => by
    unfold evs at *
    exact ⟨rfl, q⟩
  | .cons a l, s, m, Q, q => by
    unfold evs at *
    exact ev_mono a (fun x m1 r => evs_mono l (fun vs m2 t => ⟨congrArg (· + 1) t.1, t.2⟩) (evs_len l r)) q
theorem small20 {n : Nat} (h : n ≤ 20) : n ≤ sizeLine := Nat.le_trans h (by decide)
theorem l_tup {es : List Expr} {k : Nat} (hn : lenX l ≤ 20) (ha : L2.PA X es (tGA X.K g l)) : L2.PE X (.Tuple es k p) (tG X.K g (.tup l)) := by
  refine PE.imp (pe_tup ha) fun σ H Q ⟨s, m, P, S, q⟩ => ?_
  unfold ev at q
  refine oneA S (evs_len l q) fun xs vs m1 H1 P1 st ma r q => ?_
  obtain ⟨ns, e, hl, q2⟩ := e_ints r q.2
  subst e
  refine ⟨by rw [List.length_map, hl, q.1]; exact small20 hn, fun p hp => q2 _ _ P1 (st.trans (.new ma.thr hp)) (ma.new hp) tup_new⟩
theorem l_lst {es : List Expr} (hn : lenX l ≤ 20) (ha : L2.PA X es (tGA X.K g l)) : L2.PE X (.List es p) (tG X.K g (.lst l)) := by
  refine PE.imp (pe_lst ha) fun σ H Q ⟨s, m, P, S, q⟩ => ?_
  unfold ev at q
  refine oneA S (evs_len l q) fun xs vs m1 H1 P1 st ma r q => ?_
  obtain ⟨ns, e, hl, q2⟩ := e_ints r q.2
  subst e
  refine ⟨by rw [List.length_map, hl, q.1]; exact small20 hn, fun p hp => q2 _ _ P1 (st.trans (.new ma.thr hp)) (ma.new hp) (lst_new ma hp (S.fresh st hp))⟩
/-- in, not in -/
def inB (n : Bool) : CmpOp := if n = true then .NotIn else .In
theorem in_ok (n : Bool) : OpR X (compareOp (inB n)) (rIn X.K n) := by
  cases n with
  | false => exact op_in_seq
  | true => exact op_notIn_seq
theorem isin_of {n : Bool} {σ : L2.St} {H : Hp} {Q : VK} {s : FH.Env} {m : M} {P : Pt} {W : Bool → M → Prop} (hn : lenX l ≤ 20) (S : SR X.K g s m P σ H)
    (q : ev g.T g.F a s m fun x m1 => evs g.T g.F l s m1 fun vs m2 => onInt x fun i => onInts vs fun ns => W (if n = true then !ns.contains i else ns.contains i) m2)
    (h : ∀ k m2 H2 P2, Step g.a g.Sh H P H2 P2 → MAt g.C g.a H2 P2 m2 → W k m2 → Q (.bl k) H2) : tOp (rIn X.K n) (tG X.K g a) (tTup (tGA X.K g l)) σ H Q := by
  refine one S q fun u v m1 H1 P1 st ma r q => ?_
  refine oneA (S.step st ma) (evs_len l q) fun xs vs m2 H2 P2 st2 ma2 r2 q => ?_
  obtain ⟨hl, q⟩ := q
  obtain ⟨i, e, q⟩ := eint (r.step st2 ma) q
  obtain ⟨ns, e2, hl2, q⟩ := e_ints r2 q
  subst e e2
  refine ⟨by rw [List.length_map, hl2, hl]; exact small20 hn, fun p hp => ⟨p, vI ns, rfl, .inr (.of upd_same), rfl, flat_ints ns, ?_⟩⟩
  rw [in_ints]
  exact h _ m2 _ P2 ((st.trans st2).trans (.new ma2.thr hp)) (ma2.new hp) q
theorem l_isin {n : Bool} {es : List Expr} {k : Nat} {p2 : Pos} (hn : lenX l ≤ 20) (ha : L2.PE X x (tG X.K g a)) (hl : L2.PA X es (tGA X.K g l)) : L2.PE X (.Compare x [inB n] [.Tuple es k p2] p) (tG X.K g (.isin n a l)) := by
  refine PE.imp (pe_cmpR (in_ok n) ha (pe_tup hl) (by cases n <;> rfl)) fun σ H Q ⟨s, m, P, S, q⟩ => ?_
  unfold ev at q
  exact isin_of (W := fun k m2 => ∀ (v : V) (H' : Hp) (P' : Pt), Step g.a g.Sh H P H' P' → MAt g.C g.a H' P' m2 → Rl X.K g.a g.Sh H' P' (.bl k) v → Q v H') hn S q fun k m2 H2 P2 st ma w => w _ H2 P2 st ma rfl
theorem lt_isin {n : Bool} {es : List Expr} {k : Nat} {p2 : Pos} (hn : lenX l ≤ 20) (ha : L2.PE X x (tG X.K g a)) (hl : L2.PA X es (tGA X.K g l)) : L2.PT X (.Compare x [inB n] [.Tuple es k p2] p) (tGT X.K g (.isin n a l)) := by
  refine PT.imp (pt_cmpR (in_ok n) ha (pe_tup hl) (by cases n <;> rfl)) fun σ H Q ⟨s, m, P, S, q⟩ => ?_
  unfold ev at q
  exact isin_of (Q := fun z H' => ∃ k, z = .bl k ∧ Q k H') (W := fun k m2 => ∀ (H' : Hp) (P' : Pt), Step g.a g.Sh H P H' P' → MAt g.C g.a H' P' m2 → Q k H') hn S q fun k m2 H2 P2 st ma w => ⟨k, rfl, w H2 P2 st ma⟩
theorem l_indic (B : Bd X g N sc nm lim) {d : Nat} {f : Str} {p2 : Pos} (h : nm.dict[d]? = some f) (h2 : chGl sc f = true) (ha : L2.PE X x (tG X.K g a)) : L2.PE X (.Compare x [.In] [.Name f p2] p) (tG X.K g (.indic a d)) := by
  obtain ⟨q0, e, r, _⟩ := B.dict d f h
  obtain ⟨h3, h4⟩ := gl_of B h2
  refine PE.imp (pe_cmpR r ha (pe_glob (v := .ref q0) h3 e rfl h4) rfl) fun σ H Q ⟨s, m, P, S, q⟩ => ?_
  unfold ev at q
  refine one S q fun u v m1 H1 P1 st ma r q => ?_
  obtain ⟨i, e, q⟩ := eint r q
  exact ⟨i, e, rfl, q _ H1 P1 st ma rfl⟩
theorem lt_indic (B : Bd X g N sc nm lim) {d : Nat} {f : Str} {p2 : Pos} (h : nm.dict[d]? = some f) (h2 : chGl sc f = true) (ha : L2.PE X x (tG X.K g a)) : L2.PT X (.Compare x [.In] [.Name f p2] p) (tGT X.K g (.indic a d)) := by
  obtain ⟨q0, e, r, _⟩ := B.dict d f h
  obtain ⟨h3, h4⟩ := gl_of B h2
  refine PT.imp (pt_cmpR r ha (pe_glob (v := .ref q0) h3 e rfl h4) rfl) fun σ H Q ⟨s, m, P, S, q⟩ => ?_
  unfold ev at q
  refine one S q fun u v m1 H1 P1 st ma r q => ?_
  obtain ⟨i, e, q⟩ := eint r q
  exact ⟨i, e, rfl, _, rfl, q H1 P1 st ma⟩
theorem l_diget (B : Bd X g N sc nm lim) {d : Nat} {f : Str} {p2 : Pos} (h : nm.dict[d]? = some f) (h2 : chGl sc f = true) (hx : plainE x = true) (ha : L2.PE X x (tG X.K g a)) : L2.PE X (.Subscript (.Name f p2) x p) (tG X.K g (.diget d a)) := by
  obtain ⟨q0, e, _, r⟩ := B.dict d f h
  obtain ⟨h3, h4⟩ := gl_of B h2
  refine PE.imp (pe_ix r (pe_glob (v := .ref q0) h3 e rfl h4) ha (plain_ix hx)) fun σ H Q ⟨s, m, P, S, q⟩ => ?_
  unfold ev at q
  refine one S q fun u v m1 H1 P1 st ma r q => ?_
  obtain ⟨i, e, q⟩ := eint r q
  unfold onSome at q
  split at q
  · rename_i pv e3
    exact ⟨i, pv, rfl, e, e3, fun z hz => q z H1 P1 st ma (hz _ _ _)⟩
  · exact q.elim
theorem l_ite (hc : L2.PT X z (tGT X.K g c)) (ha : L2.PE X x (tG X.K g a)) (hb : L2.PE X y (tG X.K g b)) : L2.PE X (.IfExp z x y p) (tG X.K g (.ite c a b)) := by
  refine PE.imp (pe_ifExp hc ha hb) fun σ H Q ⟨s, m, P, S, q⟩ => ?_
  unfold ev at q
  refine oneT S q fun u m1 q => onBl_mono (fun k w H1 P1 st ma => ?_) q
  cases k with
  | false => exact one (S.step st ma) w fun u2 v2 m2 H2 P2 st2 ma2 r2 q2 => q2 v2 H2 P2 (st.trans st2) ma2 r2
  | true => exact one (S.step st ma) w fun u2 v2 m2 H2 P2 st2 ma2 r2 q2 => q2 v2 H2 P2 (st.trans st2) ma2 r2
end
end FHG
end
section
set_option linter.all false
set_option Elab.async false
set_option maxRecDepth 100000
set_option maxHeartbeats 4000000
namespace FHG
open PySem PySem.Spec PyProof.Rows L2 FH

section
variable {X : Cx} {g : Gh} {N : List Str} {sc : Scope} {nm : Nm} {lim : Nat} {a b c : Ex} {l : Exs} {x y z : Expr} {es : List Expr} {p q pos : Pos}
/-! ### and, or -/
theorem l_and1 (ha : L2.PE X x (tG X.K g a)) : L2.PE X (.BoolOp .And [x] p) (tG X.K g (.conj (.cons a .nil))) := by
  refine PE.imp (pe_one ha) fun σ H Q ⟨s, m, P, S, q⟩ => ?_
  unfold ev evAnd at q
  refine one S q fun u v m1 H1 P1 st ma r q => ?_
  cases u <;> first | exact q.elim | exact q _ H1 P1 st ma r
theorem l_or1 (ha : L2.PE X x (tG X.K g a)) : L2.PE X (.BoolOp .Or [x] p) (tG X.K g (.disj (.cons a .nil))) := by
  refine PE.imp (pe_one ha) fun σ H Q ⟨s, m, P, S, q⟩ => ?_
  unfold ev evOr at q
  refine one S q fun u v m1 H1 P1 st ma r q => ?_
  cases u <;> first | exact q.elim | exact q _ H1 P1 st ma r
theorem l_and2 {rs : Exs} (ha : L2.PE X x (tG X.K g a)) (hb : L2.PE X (.BoolOp .And (y :: es) p) (tG X.K g (.conj (.cons b rs)))) : L2.PE X (.BoolOp .And (x :: y :: es) p) (tG X.K g (.conj (.cons a (.cons b rs)))) := by
  refine PE.imp (pe_and ha hb) fun σ H Q ⟨s, m, P, S, q⟩ => ?_
  unfold ev evAnd at q
  refine one S q fun u v m1 H1 P1 st ma r q => ?_
  obtain ⟨k, e, q⟩ := ebl r q
  refine ⟨k, e, ?_⟩
  cases k with
  | false => exact q _ H1 P1 st ma rfl
  | true =>
    have q' : ev g.T g.F (.conj (.cons b rs)) s m1 fun pv m' => ∀ v H' P', Step g.a g.Sh H P H' P' → MAt g.C g.a H' P' m' → Rl X.K g.a g.Sh H' P' pv v → Q v H' := by
      unfold ev
      exact q
    exact one (S.step st ma) q' fun u2 v2 m2 H2 P2 st2 ma2 r2 q2 => q2 v2 H2 P2 (st.trans st2) ma2 r2
theorem l_or2 {rs : Exs} (ha : L2.PE X x (tG X.K g a)) (hb : L2.PE X (.BoolOp .Or (y :: es) p) (tG X.K g (.disj (.cons b rs)))) : L2.PE X (.BoolOp .Or (x :: y :: es) p) (tG X.K g (.disj (.cons a (.cons b rs)))) := by
  refine PE.imp (pe_or ha hb) fun σ H Q ⟨s, m, P, S, q⟩ => ?_
  unfold ev evOr at q
  refine one S q fun u v m1 H1 P1 st ma r q => ?_
  obtain ⟨k, e, q⟩ := ebl r q
  refine ⟨k, e, ?_⟩
  cases k with
  | true => exact q _ H1 P1 st ma rfl
  | false =>
    have q' : ev g.T g.F (.disj (.cons b rs)) s m1 fun pv m' => ∀ v H' P', Step g.a g.Sh H P H' P' → MAt g.C g.a H' P' m' → Rl X.K g.a g.Sh H' P' pv v → Q v H' := by
      unfold ev
      exact q
    exact one (S.step st ma) q' fun u2 v2 m2 H2 P2 st2 ma2 r2 q2 => q2 v2 H2 P2 (st.trans st2) ma2 r2
theorem lw_and1 (ha : L2.PT X x (tGT X.K g a)) : L2.PW X (.BoolOp .And [x] p) (tGT X.K g (.conj (.cons a .nil))) := by
  refine PW.imp (pw_and1 ha) fun σ H Q ⟨s, m, P, S, q⟩ => ?_
  unfold ev evAnd at q
  refine oneT S q fun u m1 q => ?_
  cases u <;> first | exact q.elim | exact q
theorem lw_or1 (ha : L2.PT X x (tGT X.K g a)) : L2.PW X (.BoolOp .Or [x] p) (tGT X.K g (.disj (.cons a .nil))) := by
  refine PW.imp (pw_or1 ha) fun σ H Q ⟨s, m, P, S, q⟩ => ?_
  unfold ev evOr at q
  refine oneT S q fun u m1 q => ?_
  cases u <;> first | exact q.elim | exact q
theorem lw_and2 {rs : Exs} (ha : L2.PT X x (tGT X.K g a)) (hb : L2.PW X (.BoolOp .And (y :: es) p) (tGT X.K g (.conj (.cons b rs)))) : L2.PW X (.BoolOp .And (x :: y :: es) p) (tGT X.K g (.conj (.cons a (.cons b rs)))) := by
  refine PW.imp (pw_and ha hb) fun σ H Q ⟨s, m, P, S, q⟩ => ?_
  unfold ev evAnd at q
  refine oneT S q fun u m1 q => onBl_mono (fun k w H1 P1 st ma => ?_) q
  cases k with
  | false => exact w H1 P1 st ma
  | true =>
    have q' : ev g.T g.F (.conj (.cons b rs)) s m1 fun pv m' => onBl pv fun b => ∀ H' P', Step g.a g.Sh H P H' P' → MAt g.C g.a H' P' m' → Q b H' := by
      unfold ev
      exact w
    exact oneT (S.step st ma) q' fun u2 m2 q2 => onBl_mono (fun k w H2 P2 st2 ma2 => w H2 P2 (st.trans st2) ma2) q2
theorem lw_or2 {rs : Exs} (ha : L2.PT X x (tGT X.K g a)) (hb : L2.PW X (.BoolOp .Or (y :: es) p) (tGT X.K g (.disj (.cons b rs)))) : L2.PW X (.BoolOp .Or (x :: y :: es) p) (tGT X.K g (.disj (.cons a (.cons b rs)))) := by
  refine PW.imp (pw_or ha hb) fun σ H Q ⟨s, m, P, S, q⟩ => ?_
  unfold ev evOr at q
  refine oneT S q fun u m1 q => onBl_mono (fun k w H1 P1 st ma => ?_) q
  cases k with
  | true => exact w H1 P1 st ma
  | false =>
    have q' : ev g.T g.F (.disj (.cons b rs)) s m1 fun pv m' => onBl pv fun b => ∀ H' P', Step g.a g.Sh H P H' P' → MAt g.C g.a H' P' m' → Q b H' := by
      unfold ev
      exact w
    exact oneT (S.step st ma) q' fun u2 m2 q2 => onBl_mono (fun k w H2 P2 st2 ma2 => w H2 P2 (st.trans st2) ma2) q2
/-! ### calls -/
/-- behind a call -/
theorem call_core {B : Bd X g N sc nm lim} {s : FH.Env} {m m1 : M} {P P1 : Pt} {σ : L2.St} {H H1 : Hp} {d : Def} {xs : List PV} {us : List V} {Q : VK} (S : SR X.K g s m P σ H) (st : Step g.a g.Sh H P H1 P1) (ma : MAt g.C g.a H1 P1 m1) (r : Rls X.K g.a g.Sh H1 P1 xs us)
    (q : callQ d g.F xs m1 fun pv m' => ∀ v H' P', Step g.a g.Sh H P H' P' → MAt g.C g.a H' P' m' → Rl X.K g.a g.Sh H' P' pv v → Q v H') : spG X.K g.C g.CF d us H1 Q g.E := by
  have sh : ∀ p, ShA xs us H1 p → g.Sh p := fun p h => h.elim (lstIn_sh r) (S.fresh st)
  refine ⟨g.a, xs, m1, P1, r.own_sh fun p h => .inl h, ma, q.1, fun pv m' e v H' P' st2 ma2 r2 => ?_, fun c w m' e x H' P' st2 ma2 ex => ?_⟩
  · have q2 := q.2
    rw [e] at q2
    exact q2 v H' P' (st.trans (st2.mono sh)) ma2 (r2.sh sh)
  · have q2 := q.2
    rw [e] at q2
    exact B.fl c w m' x H' P' q2 (S.st.trans (st.trans (st2.mono sh))) ma2 ex
theorem l_call (B : Bd X g N sc nm lim) {j : Nat} {f : Str} {pf : Pos} (h1 : j < lim) (h2 : nm.mt j = false) (h3 : nm.fn[j]? = some f) (h4 : chGl sc f = true) (hc : chs N sc nm lim l (y :: es) = true) (ha : L2.PA X (y :: es) (tGA X.K g l)) :
    L2.PE X (.Call (.Name f pf) (y :: es) [] pos) (tG X.K g (.call j l)) := by
  obtain ⟨f0, fd, ps, k, F, hr, hm, hk, hb⟩ := B.fn j f h1 h2 h3
  obtain ⟨h5, h6⟩ := gl_of B h4
  have hy : plainE y = true ∧ (backTo pos (starEach es X.env)).any (·.1) = false := by
    cases l with
    | nil => unfold chs at hc; cases hc
    | cons c r =>
      unfold chs at hc
      simp only [Bool.and_eq_true] at hc
      exact ⟨hc.1, chs_none hc.2.2⟩
  refine PE.imp (pe_call (E := g.E) F hr h5 hm hk hb .nil (passes_call B.tk fun _ _ _ _ h => h) ha h6 (plain_star hy.1) hy.2) fun σ H Q ⟨s, m, P, S, q⟩ => ?_
  unfold ev at q
  refine oneA S q fun xs us m1 H1 P1 st ma r q => ?_
  rw [List.append_nil]
  exact call_core (B := B) S st ma r q
theorem l_meth (B : Bd X g N sc nm lim) {j : Nat} {f v : Str} {pv ap : Pos} {o : Ex} (h1 : j < lim) (h2 : nm.mt j = true) (h3 : nm.fn[j]? = some f) (h4 : (ap.endLine == pos.line) = true) (h5 : lenX l ≤ 20) (ho : L2.PE X (.Name v pv) (tG X.K g o)) (hc : chs N sc nm lim l (y :: es) = true) (ha : L2.PA X (y :: es) (tGA X.K g l)) :
    L2.PE X (.Call (.Attribute (.Name v pv) f ap) (y :: es) [] pos) (tG X.K g (.meth j o l)) := by
  obtain ⟨f0, fd, ps, k, F, hr, hm, hb, hf⟩ := B.mt j f h1 h2 h3
  have hy : plainE y = true ∧ (backTo pos (starEach es X.env)).any (·.1) = false := by
    cases l with
    | nil => unfold chs at hc; cases hc
    | cons c r =>
      unfold chs at hc
      simp only [Bool.and_eq_true] at hc
      exact ⟨hc.1, chs_none hc.2.2⟩
  refine PE.imp (pe_meth (E := g.E) ho B.cl hm F hr hb .nil (passes_call B.tk fun _ _ _ _ h => h) ha (plain_star hy.1) hy.2 (meth_ev h4 hc h5)) fun σ H Q ⟨s, m, P, S, q⟩ => ?_
  unfold ev at q
  refine one S q fun u w m0 H0 P0 st0 ma0 r0 q => ?_
  have eu : u = .mach ∧ w = .ref g.a := by
    cases u <;> first | exact q.elim | exact ⟨rfl, r0⟩
  obtain ⟨rfl, rfl⟩ := eu
  refine ⟨g.a, P0.dx, _, rfl, ma0.ob, hf _ _, ?_⟩
  refine oneA (S.step st0 ma0) q fun xs us m1 H1 P1 st ma r q => ?_
  rw [List.append_nil]
  exact call_core (B := B) (xs := .mach :: xs) S (st0.trans st) ma ⟨_, _, rfl, rfl, r⟩ q
theorem l_meth0 (B : Bd X g N sc nm lim) {j : Nat} {f v : Str} {pv ap : Pos} {o : Ex} (h1 : j < lim) (h2 : nm.mt j = true) (h3 : nm.fn[j]? = some f) (h4 : (ap.endLine == pos.line) = true) (ho : L2.PE X (.Name v pv) (tG X.K g o)) :
    L2.PE X (.Call (.Attribute (.Name v pv) f ap) [] [] pos) (tG X.K g (.meth0 j o)) := by
  obtain ⟨f0, fd, ps, k, F, hr, hm, hb, hf⟩ := B.mt j f h1 h2 h3
  have h0 : chs N sc nm lim .nil [] = true := by unfold chs; rfl
  refine PE.imp (pe_meth0 (E := g.E) ho B.cl hm F hr hb .nil (passes_call B.tk fun _ _ _ _ h => h) (meth_ev h4 h0 (by decide))) fun σ H Q ⟨s, m, P, S, q⟩ => ?_
  unfold ev at q
  refine one S q fun u w m0 H0 P0 st0 ma0 r0 q => ?_
  have eu : u = .mach ∧ w = .ref g.a := by
    cases u <;> first | exact q.elim | exact ⟨rfl, r0⟩
  obtain ⟨rfl, rfl⟩ := eu
  refine ⟨g.a, P0.dx, _, rfl, ma0.ob, hf _ _, ?_⟩
  exact call_core (B := B) (xs := [.mach]) (us := [.ref g.a]) S st0 ma0 ⟨_, _, rfl, rfl, rfl⟩ q
/-! ### built-ins -/
theorem blt_of {f : Str} (B : Bd X g N sc nm lim) {u : Str} (h : chB sc f u = true) (hu : u ∈ noBlt) : f = u ∧ Gl X u ∧ X.mg u = none ∧ (u == ("__debug__" : Str)) = false := by
  unfold chB at h
  simp only [Bool.and_eq_true, decide_eq_true_eq] at h
  obtain ⟨h1, h2⟩ := gl_of B h.2
  exact ⟨h.1, h1, B.blt u hu, h2⟩
theorem pa1 (hx : plainE x = true) (ha : L2.PE X x (tG X.K g a)) : L2.PA X [x] (tCons (tG X.K g a) tNil) := pa_cons ha pa_nil (plain_star hx)
theorem pa2 (hx : plainE x = true) (hy : plainE y = true) (ha : L2.PE X x (tG X.K g a)) (hb : L2.PE X y (tG X.K g b)) : L2.PA X [x, y] (tCons (tG X.K g a) (tCons (tG X.K g b) tNil)) := pa_cons ha (pa1 hy hb) (plain_star hx)
theorem star1 {env : PySem.Env} (hy : plainE y = true) : (backTo pos (starEach [y] env)).any (·.1) = false := by
  rw [plain_star hy]
  rfl
theorem l_abs (B : Bd X g N sc nm lim) {f : Str} {pf : Pos} (h : chB sc f "abs" = true) (hx : plainE x = true) (ha : L2.PE X x (tG X.K g a)) : L2.PE X (.Call (.Name f pf) [x] [] pos) (tG X.K g (.abs a)) := by
  obtain ⟨rfl, h1, h2, h3⟩ := blt_of B h (by decide +kernel)
  refine PE.imp (pe_callB call_abs h1 h2 (by decide +kernel) (pa1 hx ha) (by decide +kernel) h3 (plain_star hx) rfl) fun σ H Q ⟨s, m, P, S, q⟩ => ?_
  unfold ev at q
  refine one S q fun u v m1 H1 P1 st ma r q => ?_
  obtain ⟨i, e, q⟩ := eint r q
  exact ⟨i, by rw [e], q _ H1 P1 st ma rfl⟩
theorem l_max2 (B : Bd X g N sc nm lim) {f : Str} {pf : Pos} (h : chB sc f "max" = true) (hx : plainE x = true) (hy : plainE y = true) (ha : L2.PE X x (tG X.K g a)) (hb : L2.PE X y (tG X.K g b)) : L2.PE X (.Call (.Name f pf) [x, y] [] pos) (tG X.K g (.max2 a b)) := by
  obtain ⟨rfl, h1, h2, h3⟩ := blt_of B h (by decide +kernel)
  refine PE.imp (pe_callB (call_max2 B.calm) h1 h2 (by decide +kernel) (pa2 hx hy ha hb) (by decide +kernel) h3 (plain_star hx) (star1 hy)) fun σ H Q ⟨s, m, P, S, q⟩ => ?_
  unfold ev at q
  refine two S q fun u w u' w' m2 H2 P2 st ma r1 r2 q => ?_
  obtain ⟨i, e, q⟩ := eint r1 q
  obtain ⟨j, e2, q⟩ := eint r2 q
  exact ⟨i, j, by rw [e, e2], q _ H2 P2 st ma rfl⟩
theorem l_min2 (B : Bd X g N sc nm lim) {f : Str} {pf : Pos} (h : chB sc f "min" = true) (hx : plainE x = true) (hy : plainE y = true) (ha : L2.PE X x (tG X.K g a)) (hb : L2.PE X y (tG X.K g b)) : L2.PE X (.Call (.Name f pf) [x, y] [] pos) (tG X.K g (.min2 a b)) := by
  obtain ⟨rfl, h1, h2, h3⟩ := blt_of B h (by decide +kernel)
  refine PE.imp (pe_callB (call_min2 B.calm) h1 h2 (by decide +kernel) (pa2 hx hy ha hb) (by decide +kernel) h3 (plain_star hx) (star1 hy)) fun σ H Q ⟨s, m, P, S, q⟩ => ?_
  unfold ev at q
  refine two S q fun u w u' w' m2 H2 P2 st ma r1 r2 q => ?_
  obtain ⟨i, e, q⟩ := eint r1 q
  obtain ⟨j, e2, q⟩ := eint r2 q
  exact ⟨i, j, by rw [e, e2], q _ H2 P2 st ma rfl⟩
theorem l_dvm (B : Bd X g N sc nm lim) {f : Str} {pf : Pos} (h : chB sc f "divmod" = true) (hx : plainE x = true) (hy : plainE y = true) (ha : L2.PE X x (tG X.K g a)) (hb : L2.PE X y (tG X.K g b)) : L2.PE X (.Call (.Name f pf) [x, y] [] pos) (tG X.K g (.dvm a b)) := by
  obtain ⟨rfl, h1, h2, h3⟩ := blt_of B h (by decide +kernel)
  refine PE.imp (pe_callB call_divmodW h1 h2 (by decide +kernel) (pa2 hx hy ha hb) (by decide +kernel) h3 (plain_star hx) (star1 hy)) fun σ H Q ⟨s, m, P, S, q⟩ => ?_
  unfold ev at q
  refine two S q fun u w u' w' m2 H2 P2 st ma r1 r2 q => ?_
  obtain ⟨i, e, q⟩ := eint r1 q
  obtain ⟨j, e2, q⟩ := eint r2 q
  exact ⟨i, j, by rw [e, e2], divp_ok q.1.1 q.1.2, fun p hp => q.2 _ _ P2 (st.trans (.new ma.thr hp)) (ma.new hp) (tup_new (ns := [i / j, i % j]))⟩
theorem eseq {K : PySem.W.Frag} {a : Addr} {Sh : Addr → Prop} {H : Hp} {P : Pt} {u : PV} {v : V} {Q : List Int → Prop} (r : Rl K a Sh H P u v) (q : onSeq u Q) : ∃ p ns, v = .ref p ∧ (SqL K H p (vI ns) ∨ SqT K H p (vI ns)) ∧ Q ns := by
  cases u <;> first | exact q.elim | skip
  · obtain ⟨p, e, h⟩ := r
    exact ⟨p, _, e, .inr h, q⟩
  · obtain ⟨p, e, h, _, _⟩ := r
    exact ⟨p, _, e, .inl (.inl h), q⟩
theorem l_len (B : Bd X g N sc nm lim) {f : Str} {pf : Pos} (h : chB sc f "len" = true) (hx : plainE x = true) (ha : L2.PE X x (tG X.K g a)) : L2.PE X (.Call (.Name f pf) [x] [] pos) (tG X.K g (.len a)) := by
  obtain ⟨rfl, h1, h2, h3⟩ := blt_of B h (by decide +kernel)
  refine PE.imp (pe_callB call_len_seq h1 h2 boot_len (pa1 hx ha) (by decide +kernel) h3 (plain_star hx) rfl) fun σ H Q ⟨s, m, P, S, q⟩ => ?_
  unfold ev at q
  refine one S q fun u v m1 H1 P1 st ma r q => ?_
  obtain ⟨p, ns, e, hq, q⟩ := eseq r q
  refine ⟨p, _, by rw [e], hq, ?_⟩
  rw [List.length_map]
  exact q _ H1 P1 st ma rfl
theorem l_tolist (B : Bd X g N sc nm lim) {f : Str} {pf : Pos} (h : chB sc f "list" = true) (hx : plainE x = true) (ha : L2.PE X x (tG X.K g a)) : L2.PE X (.Call (.Name f pf) [x] [] pos) (tG X.K g (.tolist a)) := by
  obtain ⟨rfl, h1, h2, h3⟩ := blt_of B h (by decide +kernel)
  refine PE.imp (pe_callTy call_list_of h1 h2 (by decide +kernel) (pa1 hx ha) (by decide +kernel) h3 (plain_star hx) rfl) fun σ H Q ⟨s, m, P, S, q⟩ => ?_
  unfold ev at q
  refine one S q fun u v m1 H1 P1 st ma r q => ?_
  cases u <;> first | exact q.elim | skip
  obtain ⟨p, e, hq⟩ := r
  exact ⟨p, _, by rw [e], .inr hq, fun l hl => q _ _ P1 (st.trans (.new ma.thr hl)) (ma.new hl) (lst_new ma hl (S.fresh st hl))⟩
theorem l_bits {f : Str} {ap : Pos} (hf : f = "bit_length") (h1 : (ap.endLine == pos.line) = true) (h2 : attributeBase x "bit_length" X.env (eval x X.env) = eval x X.env) (ha : L2.PE X x (tG X.K g a)) : L2.PE X (.Call (.Attribute x f ap) [] [] pos) (tG X.K g (.bits a)) := by
  subst hf
  refine PE.imp (pe_bits ha h2 h1) fun σ H Q ⟨s, m, P, S, q⟩ => ?_
  unfold ev at q
  refine one S q fun u v m1 H1 P1 st ma r q => ?_
  obtain ⟨i, e, q⟩ := eint r q
  exact ⟨i, e, q _ H1 P1 st ma rfl⟩
/-! ### subscripts, slices -/
theorem at_ints {ns : List Int} {i : Int} {Q : PV → Prop} (q : atQ ns i Q) : ∃ v, atI (vI ns) i = some (.int v) ∧ Q (.int v) := by
  obtain ⟨⟨h0, h1⟩, q⟩ := q
  obtain ⟨k, rfl⟩ := Int.eq_ofNat_of_zero_le h0
  refine ⟨ns.getD k 0, atI_nat ?_, q⟩
  have hk : k < ns.length := by omega
  rw [List.getElem?_map, List.getElem?_eq_getElem hk]
  simp [List.getD, List.getElem?_eq_getElem hk]
theorem l_ctup (B : Bd X g N sc nm lim) {t : Nat} {f : Str} {pf : Pos} (h : nm.ctup[t]? = some f) (h2 : chGl sc f = true) (hx : plainE x = true) (ha : L2.PE X x (tG X.K g a)) : L2.PE X (.Subscript (.Name f pf) x p) (tG X.K g (.ctup t a)) := by
  obtain ⟨q0, e, r⟩ := B.ctup t f h
  obtain ⟨h3, h4⟩ := gl_of B h2
  refine PE.imp (pe_ix ix_tup (pe_glob (v := .ref q0) h3 e rfl h4) ha (plain_ix hx)) fun σ H Q ⟨s, m, P, S, q⟩ => ?_
  unfold ev at q
  refine one S q fun u v m1 H1 P1 st ma rr q => ?_
  obtain ⟨i, e2, q⟩ := eint rr q
  obtain ⟨w, e3, q⟩ := at_ints q
  exact ⟨q0, _, i, _, rfl, e2, r H1, e3, q _ H1 P1 st ma rfl⟩
theorem l_at (hy : plainE y = true) (ha : L2.PE X x (tG X.K g a)) (hb : L2.PE X y (tG X.K g b)) : L2.PE X (.Subscript x y p) (tG X.K g (.at_ a b)) := by
  refine PE.imp (pe_ix ix_seq ha hb (plain_ix hy)) fun σ H Q ⟨s, m, P, S, q⟩ => ?_
  unfold ev at q
  refine two S q fun u v x' y' m2 H2 P2 st ma r1 r2 q => ?_
  obtain ⟨q0, ns, e, hq, q⟩ := eseq r1 q
  obtain ⟨i, e2, q⟩ := eint r2 q
  obtain ⟨w, e3, q⟩ := at_ints q
  rcases hq with hq | hq
  · exact .inl ⟨q0, _, i, _, e, e2, hq, e3, q _ H2 P2 st ma rfl⟩
  · exact .inr (.inl ⟨q0, _, i, _, e, e2, hq, e3, q _ H2 P2 st ma rfl⟩)
theorem cut_ints (ns : List Int) (i j : Int) (h0 : 0 ≤ i) (h1 : 0 ≤ j) : cutV (vI ns) (some i) (some j) = vI (cutI ns i j) := by
  obtain ⟨i, rfl⟩ := Int.eq_ofNat_of_zero_le h0
  obtain ⟨j, rfl⟩ := Int.eq_ofNat_of_zero_le h1
  unfold cutV cutI
  rw [HT.sIx_nat, HT.sIx_nat, List.length_map, ← List.map_drop, ← List.map_take]
  congr 1
  show (ns.drop (min i ns.length)).take (min j ns.length - min i ns.length) = (ns.drop i).take (j - i)
  apply List.ext_getElem?
  intro n
  rw [List.getElem?_take, List.getElem?_take, List.getElem?_drop, List.getElem?_drop]
  by_cases hi : i ≤ ns.length
  · rw [Nat.min_eq_left hi]
    by_cases hn : n < j - i
    · rw [if_pos hn]
      by_cases hj : j ≤ ns.length
      · rw [Nat.min_eq_left hj, if_pos hn]
      · rw [Nat.min_eq_right (by omega)]
        by_cases h3 : n < ns.length - i
        · rw [if_pos h3]
        · rw [if_neg h3]
          exact (List.getElem?_eq_none (by omega)).symm
    · rw [if_neg hn, if_neg (by omega)]
  · rw [if_neg (by omega)]
    by_cases hn : n < j - i
    · rw [if_pos hn]
      exact (List.getElem?_eq_none (by omega)).symm
    · rw [if_neg hn]
theorem from_ints (ns : List Int) (k : Nat) (h : k ≤ ns.length) : cutV (vI ns) (some (k : Int)) none = vI (ns.drop k) := by
  unfold cutV
  rw [HT.sIx_nat, HT.sIx_none, List.length_map, Nat.min_eq_left h, ← List.map_drop, List.take_of_length_le (by rw [List.length_map, List.length_drop] <;> omega)]
theorem l_from {k n : Nat} {i : Int} {p1 p2 : Pos} (hi : i = (k : Int)) (ha : L2.PE X x (tG X.K g a)) : L2.PE X (.Subscript x (.Slice (some (.Constant (.int i) n p1)) none none p2) p) (tG X.K g (.from_ a k)) := by
  subst hi
  refine PE.imp (pe_slice (sl_tup.or sl_list) ha (po_some pe_int) po_none) fun σ H Q ⟨s, m, P, S, q⟩ => ?_
  unfold ev at q
  refine one S q fun u v m1 H1 P1 st ma r q => ?_
  refine ⟨_, rfl, ?_⟩
  cases u <;> first | exact q.elim | skip
  · rename_i ns
    obtain ⟨q0, e, hq⟩ := r
    obtain ⟨⟨h1, h2⟩, q⟩ := q
    refine .inl ⟨q0, _, e, hq, fun z => ?_, fun p hp => ?_⟩
    · rw [HT.sIx_nat, List.length_map] at z
      have := z.1
      omega
    · rw [from_ints ns k h2]
      exact q _ _ P1 (st.trans (.new ma.thr hp)) (ma.new hp) tup_new
  · rename_i ns
    obtain ⟨q0, e, hq, _⟩ := r
    obtain ⟨⟨h1, h2⟩, q⟩ := q
    refine .inr ⟨q0, _, e, .inl hq, fun p hp => ?_⟩
    rw [from_ints ns k h2]
    exact q _ _ P1 (st.trans (.new ma.thr hp)) (ma.new hp) (lst_new ma hp (S.fresh st hp))
theorem l_cutl {p2 : Pos} (ha : L2.PE X x (tG X.K g a)) (hb : L2.PE X y (tG X.K g b)) (hc : L2.PE X z (tG X.K g c)) : L2.PE X (.Subscript x (.Slice (some y) (some z) none p2) p) (tG X.K g (.cutl a b c)) := by
  refine PE.imp (pe_slice sl_list ha (po_some hb) (po_some hc)) fun σ H Q ⟨s, m, P, S, q⟩ => ?_
  unfold ev at q
  refine one S q fun u v m1 H1 P1 st ma r q => ?_
  cases u <;> first | exact q.elim | skip
  rename_i ns
  refine one (S.step st ma) q fun u2 v2 m2 H2 P2 st2 ma2 r2 q => ?_
  obtain ⟨i, e2, q⟩ := eint r2 q
  refine ⟨i, e2, ?_⟩
  refine one (S.step (st.trans st2) ma2) q fun u3 v3 m3 H3 P3 st3 ma3 r3 q => ?_
  obtain ⟨j, e3, q⟩ := eint r3 q
  obtain ⟨q0, e, hq, _⟩ := (r.step st2 ma).step st3 ma2
  refine ⟨j, e3, q0, _, e, .inl hq, fun p hp => ?_⟩
  rw [cut_ints ns i j q.1.1 q.1.2]
  exact q.2 _ _ P3 (((st.trans st2).trans st3).trans (.new ma3.thr hp)) (ma3.new hp) (lst_new ma3 hp (S.fresh ((st.trans st2).trans st3) hp))
/-- a list, tracked or locked, joined to another -/
theorem cat_rd : OpR X (binaryOp .Add) (fun x y H Q => ∃ l b xs zs, x = .ref l ∧ y = .ref b ∧ Rd H l (.lst xs) ∧ Rd H b (.lst zs) ∧ xs.length + zs.length ≤ sizeLine ∧ ∀ p, H p = none → Q (.ref p) (upd H p (.lst (xs ++ zs)))) := by
  intro pins s σ H x y v u Q I rx ry h
  obtain ⟨l, b, xs, zs, e1, e2, hH, hB, hz, q⟩ := h
  subst e1 e2
  cases rx
  cases ry
  have at_ : ∀ {p : Addr} {ws : List V}, Rd H p (.lst ws) → ∃ (its : List Value) (n : Nat), Vals ws its ∧ s.heap.get? p = some { cls := .type "list", data := .seq its.toArray n } := fun {p ws} r => by
    obtain ⟨_, its, n, r1, r2⟩ := r.ok I.hok
    exact ⟨its, n, r1, r2⟩
  obtain ⟨i1, n1, v1, g1⟩ := at_ hH
  obtain ⟨i2, n2, v2, g2⟩ := at_ hB
  have k1 := v1.length
  have k2 := v2.length
  refine PySem.P.add_list g1 g2 ?_ (by simp only [List.size_toArray]; omega)
  rw [show i1.toArray ++ i2.toArray = (i1 ++ i2).toArray by simp]
  exact ⟨.ref _, _, I.lnew (t' := s.toks) (v1.append v2) (by simp only [List.length_append]; omega), rfl, q _ I.fresh⟩
theorem elst {K : PySem.W.Frag} {a : Addr} {Sh : Addr → Prop} {H : Hp} {P : Pt} {u : PV} {v : V} {Q : List Int → Prop} (r : Rl K a Sh H P u v) (q : onLst u Q) : ∃ p ns, v = .ref p ∧ Rd H p (.lst (vI ns)) ∧ ¬ own P p ∧ Sh p ∧ Q ns := by
  cases u <;> first | exact q.elim | skip
  obtain ⟨p, e, h, n, z⟩ := r
  exact ⟨p, _, e, h, n, z, q⟩
theorem line_big {n : Nat} (h : n ≤ 1000000) : n ≤ sizeLine := by
  rw [sizeLine_eq]
  omega
theorem l_cat (ha : L2.PE X x (tG X.K g a)) (hb : L2.PE X y (tG X.K g b)) : L2.PE X (.BinOp x .Add y p) (tG X.K g (.cat a b)) := by
  refine PE.imp (pe_op cat_rd ha hb) fun σ H Q ⟨s, m, P, S, q⟩ => ?_
  unfold ev at q
  refine two S q fun u v x' y' m2 H2 P2 st ma r1 r2 q => ?_
  obtain ⟨p1, n1, e1, h1, _, _, q⟩ := elst r1 q
  obtain ⟨p2, n2, e2, h2, _, _, q⟩ := elst r2 q
  refine ⟨p1, p2, _, _, e1, e2, h1, h2, by rw [List.length_map, List.length_map]; exact line_big q.1, fun p hp => ?_⟩
  rw [← List.map_append]
  exact q.2 _ _ P2 (st.trans (.new ma.thr hp)) (ma.new hp) (lst_new ma hp (S.fresh st hp))
/-! ### the machine read -/
theorem lk_fld (P : Pt) (m : M) (f : Fld) : (mF P m).lookup (fldN f) = some (.int (m.fld f)) := by
  cases f <;> rfl
theorem fld_attr (f : Fld) : fldN f ∈ attrs := by
  cases f <;> decide +kernel
theorem part_attr (f : Part) : partN f ∈ attrs := by
  cases f <;> decide +kernel
theorem l_fld (B : Bd X g N sc nm lim) {f : Fld} {v : Str} {pv : Pos} (ha : L2.PE X (.Name v pv) (tG X.K g a)) : L2.PE X (.Attribute (.Name v pv) (fldN f) p) (tG X.K g (.fld f a)) := by
  refine PE.imp (pe_fld ha rfl) fun σ H Q ⟨s, m, P, S, q⟩ => ?_
  unfold ev at q
  refine one S q fun u w m1 H1 P1 st ma r q => ?_
  obtain ⟨e, q⟩ := emach r q
  exact ⟨g.a, g.C, P1.dx, _, _, e, ma.ob, B.cl, B.na _ (fld_attr f), lk_fld P1 m1 f, q _ H1 P1 st ma rfl⟩
def partA (P : Pt) : Part → Addr
  | .x => P.ax
  | .f => P.af
  | .mem => P.am
theorem lk_part (P : Pt) (m : M) (f : Part) : (mF P m).lookup (partN f) = some (.ref (partA P f)) := by
  cases f <;> rfl
theorem MAt.part {C a : Addr} {H : Hp} {P : Pt} {m : M} (h : MAt C a H P m) (f : Part) : H (partA P f) = some (.lst (vI (m.part f))) := by
  cases f
  · exact h.hx
  · exact h.hf
  · exact h.hm
theorem part_same {C a : Addr} {Sh : Addr → Prop} {H H' : Hp} {P P' : Pt} {m m' : M} (st : Step a Sh H P H' P') (h : MAt C a H P m) (h' : MAt C a H' P' m') (e : m'.gen = m.gen) (f : Part) : partA P' f = partA P f := by
  obtain ⟨e1, e2, e3⟩ := st.same (by rw [h'.gn, h.gn, e])
  cases f
  · exact e1
  · exact e2
  · exact e3
theorem l_part (B : Bd X g N sc nm lim) {f : Part} {v : Str} {pv p2 : Pos} (hy : plainE y = true) (ha : L2.PE X (.Name v pv) (tG X.K g a)) (hb : L2.PE X y (tG X.K g b)) : L2.PE X (.Subscript (.Attribute (.Name v pv) (partN f) p2) y p) (tG X.K g (.part f a b)) := by
  refine PE.imp (pe_ix ix_list (pe_fld ha rfl) hb (plain_ix hy)) fun σ H Q ⟨s, m, P, S, q⟩ => ?_
  unfold ev at q
  refine one S q fun u w m1 H1 P1 st ma r q => ?_
  obtain ⟨e, q⟩ := emach r q
  refine ⟨g.a, g.C, P1.dx, _, _, e, ma.ob, B.cl, B.na _ (part_attr f), lk_part P1 m1 f, ?_⟩
  refine one (S.step st ma) q fun u2 v2 m2 H2 P2 st2 ma2 r2 q => ?_
  obtain ⟨i, e2, q⟩ := eint r2 q
  obtain ⟨w2, e3, q3⟩ := at_ints q.2
  exact ⟨_, _, i, _, rfl, e2, .of (by rw [← part_same st2 ma ma2 q.1 f]; exact ma2.part f), e3, q3 _ H2 P2 (st.trans st2) ma2 rfl⟩
theorem l_pcut (B : Bd X g N sc nm lim) {v : Str} {pv p2 p3 : Pos} (ha : L2.PE X (.Name v pv) (tG X.K g a)) (hb : L2.PE X y (tG X.K g b)) (hc : L2.PE X z (tG X.K g c)) : L2.PE X (.Subscript (.Attribute (.Name v pv) "memory" p2) (.Slice (some y) (some z) none p3) p) (tG X.K g (.pcut a b c)) := by
  refine PE.imp (pe_slice sl_list (pe_fld ha rfl) (po_some hb) (po_some hc)) fun σ H Q ⟨s, m, P, S, q⟩ => ?_
  unfold ev at q
  refine one S q fun u w m1 H1 P1 st ma r q => ?_
  obtain ⟨e, q⟩ := emach r q
  refine ⟨g.a, g.C, P1.dx, _, _, e, ma.ob, B.cl, B.na _ (part_attr .mem), lk_part P1 m1 .mem, ?_⟩
  refine one (S.step st ma) q fun u2 v2 m2 H2 P2 st2 ma2 r2 q => ?_
  obtain ⟨i, e2, q⟩ := eint r2 q
  refine ⟨i, e2, ?_⟩
  refine one (S.step (st.trans st2) ma2) q fun u3 v3 m3 H3 P3 st3 ma3 r3 q => ?_
  obtain ⟨j, e3, q⟩ := eint r3 q
  refine ⟨j, e3, _, _, rfl, .of (by rw [← part_same (st2.trans st3) ma ma3 q.2.1 .mem]; exact ma3.part .mem), fun p hp => ?_⟩
  rw [cut_ints _ i j q.1.1 q.1.2]
  exact q.2.2 _ _ P3 (((st.trans st2).trans st3).trans (.new ma3.thr hp)) (ma3.new hp) (lst_new ma3 hp (S.fresh ((st.trans st2).trans st3) hp))
theorem words_attr : ("words" : Str) ∈ attrs := by decide +kernel
theorem lk_words (P : Pt) (m : M) : (mF P m).lookup ("words" : Str) = some (V.ref P.aw) := rfl
theorem l_word (B : Bd X g N sc nm lim) {v : Str} {pv p2 : Pos} (hy : plainE y = true) (ha : L2.PE X (.Name v pv) (tG X.K g a)) (hb : L2.PE X y (tG X.K g b)) : L2.PE X (.Subscript (.Attribute (.Name v pv) "words" p2) y p) (tG X.K g (.word a b)) := by
  refine PE.imp (pe_ix ix_list (pe_fld ha rfl) hb (plain_ix hy)) fun σ H Q ⟨s, m, P, S, q⟩ => ?_
  unfold ev at q
  refine one S q fun u w m1 H1 P1 st ma r q => ?_
  obtain ⟨e, q⟩ := emach r q
  refine ⟨g.a, g.C, P1.dx, _, _, e, ma.ob, B.cl, B.na _ words_attr, lk_words P1 m1, ?_⟩
  refine one (S.step st ma) q fun u2 v2 m2 H2 P2 st2 ma2 r2 q => ?_
  obtain ⟨i, e2, q⟩ := eint r2 q
  obtain ⟨w2, e3, q3⟩ := at_ints q
  exact ⟨_, _, i, _, rfl, e2, .inl (st2.rdL ma ma.hw ma.wo).1, e3, q3 _ H2 P2 (st.trans st2) ma2 rfl⟩
theorem l_wlen (B : Bd X g N sc nm lim) {f v : Str} {pf pv p2 : Pos} (h : chB sc f "len" = true) (ha : L2.PE X (.Name v pv) (tG X.K g a)) : L2.PE X (.Call (.Name f pf) [.Attribute (.Name v pv) "words" p2] [] pos) (tG X.K g (.wlen a)) := by
  obtain ⟨rfl, h1, h2, h3⟩ := blt_of B h (by decide +kernel)
  refine PE.imp (pe_callB call_len_seq h1 h2 boot_len (pa_cons (pe_fld ha rfl) pa_nil) (by decide +kernel) h3 rfl rfl) fun σ H Q ⟨s, m, P, S, q⟩ => ?_
  unfold ev at q
  refine one S q fun u w m1 H1 P1 st ma r q => ?_
  obtain ⟨e, q⟩ := emach r q
  refine ⟨g.a, g.C, P1.dx, _, _, e, ma.ob, B.cl, B.na _ words_attr, lk_words P1 m1, P1.aw, _, rfl, .inl (.inl ma.hw), ?_⟩
  rw [List.length_map]
  exact q _ H1 P1 st ma rfl

/-! ### any code -/
theorem dec {p : Prop} [Decidable p] (h : decide p = true) : p := of_decide_eq_true h
theorem ba {a b : Bool} (h : (a && b) = true) : a = true ∧ b = true := Bool.and_eq_true_iff.mp h
theorem nb {a : Bool} (h : (!a) = true) : a = false := by
  cases a
  · rfl
  · cases h
end
end FHG
end
section
set_option linter.all false
set_option Elab.async false
set_option maxRecDepth 100000
set_option maxHeartbeats 4000000
namespace FHG
open PySem PySem.Spec PyProof.Rows L2 FH

section
variable {X : Cx} {g : Gh} {N : List Str} {sc : Scope} {nm : Nm} {lim : Nat}
/-- a value that is a bool, as a test -/
theorem lt_val {c : Ex} {e : Expr} (h : L2.PE X e (tG X.K g c)) (he : ∀ whole, isTrue e X.env whole = (do let v ← whole; standAt e.pos; holding [v] (truthy v))) : L2.PT X e (tGT X.K g c) := by
  refine PT.imp (pt_val h he) fun σ H Q ⟨s, m, P, S, q⟩ => ?_
  refine one S q fun u v m1 H1 P1 st ma r q => ?_
  obtain ⟨k, e, q⟩ := ebl r q
  exact ⟨k, e, q H1 P1 st ma⟩
mutual
theorem g_pe (B : Bd X g N sc nm lim) : ∀ (c : Ex) (e : Expr), ch N sc nm lim c e = true → L2.PE X e (tG X.K g c)
  | .var i, e, h => by
    cases e <;> first | (unfold ch at h; cases h; done) | skip
    exact l_var B (by unfold ch at h; exact h)
  | .int i, e, h => by
    unfold ch at h
    split at h <;> first | (cases h; done) | skip
    have h1 := dec h
    subst h1
    exact l_int
  | .bl b, e, h => by
    unfold ch at h
    split at h <;> first | (cases h; done) | skip
    have h1 := dec h
    subst h1
    exact l_bl
  | .con k, e, h => by
    unfold ch at h
    split at h <;> first | (cases h; done) | skip
    obtain ⟨h1, h2⟩ := ba h
    exact l_con B (dec h1) h2
  | .bin o a b, e, h => by
    unfold ch at h
    split at h <;> first | (cases h; done) | skip
    obtain ⟨h1, h⟩ := ba h
    obtain ⟨h2, h3⟩ := ba h
    rw [dec h1]
    exact l_bin (g_pe B a _ h2) (g_pe B b _ h3)
  | .neg a, e, h => by
    unfold ch at h
    split at h <;> first | (cases h; done) | skip
    exact l_neg (g_pe B a _ h)
  | .inv a, e, h => by
    unfold ch at h
    split at h <;> first | (cases h; done) | skip
    exact l_inv (g_pe B a _ h)
  | .not a, e, h => by
    unfold ch at h
    split at h <;> first | (cases h; done) | skip
    exact l_not (g_pe B a _ (ba h).2)
  | .cmp o a b, e, h => by
    unfold ch at h
    split at h <;> first | (cases h; done) | skip
    obtain ⟨h1, h⟩ := ba h
    obtain ⟨h2, h3⟩ := ba h
    rw [dec h1]
    exact l_cmp (g_pe B a _ h2) (g_pe B b _ h3)
  | .chn o p a b c, e, h => by
    unfold ch at h
    split at h <;> first | (cases h; done) | skip
    obtain ⟨h1, h⟩ := ba h
    obtain ⟨h2, h⟩ := ba h
    obtain ⟨h3, h⟩ := ba h
    obtain ⟨h4, h⟩ := ba h
    obtain ⟨h5, h6⟩ := ba h
    rw [dec h1, dec h2]
    exact l_chn (g_pe B a _ h4) (g_pe B b _ h5) (g_pe B c _ h6) h3
  | .isin n a l, e, h => by
    unfold ch at h
    split at h <;> first | (cases h; done) | skip
    obtain ⟨h1, h⟩ := ba h
    obtain ⟨h2, h⟩ := ba h
    obtain ⟨h3, h4⟩ := ba h
    rw [dec h1]
    exact l_isin (n := n) (dec h2) (g_pe B a _ h3) (g_pa B l _ h4)
  | .indic a d, e, h => by
    unfold ch at h
    split at h <;> first | (cases h; done) | skip
    obtain ⟨h1, h⟩ := ba h
    obtain ⟨h2, h3⟩ := ba h
    exact l_indic B (dec h1) h2 (g_pe B a _ h3)
  | .diget d a, e, h => by
    unfold ch at h
    split at h <;> first | (cases h; done) | skip
    obtain ⟨h1, h⟩ := ba h
    obtain ⟨h2, h⟩ := ba h
    obtain ⟨h3, h4⟩ := ba h
    exact l_diget B (dec h1) h2 h3 (g_pe B a _ h4)
  | .conj l, e, h => by
    unfold ch at h
    split at h <;> first | (cases h; done) | skip
    obtain ⟨h1, h2⟩ := ba h
    exact g_and B l _ h1 h2
  | .disj l, e, h => by
    unfold ch at h
    split at h <;> first | (cases h; done) | skip
    obtain ⟨h1, h2⟩ := ba h
    exact g_or B l _ h1 h2
  | .ite c a b, e, h => by
    unfold ch at h
    split at h <;> first | (cases h; done) | skip
    obtain ⟨h1, h⟩ := ba h
    obtain ⟨h2, h⟩ := ba h
    obtain ⟨h3, h4⟩ := ba h
    exact l_ite (g_pt B c _ (nb h1) h2) (g_pe B a _ h3) (g_pe B b _ h4)
  | .call j l, e, h => by
    unfold ch at h
    split at h <;> first | (cases h; done) | skip
    obtain ⟨h1, h⟩ := ba h
    obtain ⟨h2, h⟩ := ba h
    obtain ⟨h3, h⟩ := ba h
    obtain ⟨h4, h5⟩ := ba h
    exact l_call B (dec h1) (nb h2) (dec h3) h4 h5 (g_pa B l _ h5)
  | .meth j o l, e, h => by
    unfold ch at h
    split at h <;> first | (cases h; done) | skip
    obtain ⟨h1, h⟩ := ba h
    obtain ⟨h2, h⟩ := ba h
    obtain ⟨h3, h⟩ := ba h
    obtain ⟨h4, h⟩ := ba h
    obtain ⟨h5, h⟩ := ba h
    obtain ⟨h6, h7⟩ := ba h
    exact l_meth B (dec h1) h2 (dec h3) h4 (dec h5) (g_pe B o _ h6) h7 (g_pa B l _ h7)
  | .meth0 j o, e, h => by
    unfold ch at h
    split at h <;> first | (cases h; done) | skip
    obtain ⟨h1, h⟩ := ba h
    obtain ⟨h2, h⟩ := ba h
    obtain ⟨h3, h⟩ := ba h
    obtain ⟨h4, h5⟩ := ba h
    exact l_meth0 B (dec h1) h2 (dec h3) h4 (g_pe B o _ h5)
  | .bits a, e, h => by
    unfold ch at h
    split at h <;> first | (cases h; done) | skip
    obtain ⟨h1, h⟩ := ba h
    obtain ⟨h2, h⟩ := ba h
    obtain ⟨h3, h4⟩ := ba h
    refine l_bits (dec h1) h2 ?_ (g_pe B a _ h4)
    split at h3 <;> first | (cases h3; done) | rfl
  | .max2 a b, e, h => by
    unfold ch at h
    split at h <;> first | (cases h; done) | skip
    obtain ⟨h1, h⟩ := ba h
    obtain ⟨h2, h⟩ := ba h
    obtain ⟨h3, h⟩ := ba h
    obtain ⟨h4, h5⟩ := ba h
    exact l_max2 B h1 h2 h3 (g_pe B a _ h4) (g_pe B b _ h5)
  | .min2 a b, e, h => by
    unfold ch at h
    split at h <;> first | (cases h; done) | skip
    obtain ⟨h1, h⟩ := ba h
    obtain ⟨h2, h⟩ := ba h
    obtain ⟨h3, h⟩ := ba h
    obtain ⟨h4, h5⟩ := ba h
    exact l_min2 B h1 h2 h3 (g_pe B a _ h4) (g_pe B b _ h5)
  | .abs a, e, h => by
    unfold ch at h
    split at h <;> first | (cases h; done) | skip
    obtain ⟨h1, h⟩ := ba h
    obtain ⟨h2, h3⟩ := ba h
    exact l_abs B h1 h2 (g_pe B a _ h3)
  | .dvm a b, e, h => by
    unfold ch at h
    split at h <;> first | (cases h; done) | skip
    obtain ⟨h1, h⟩ := ba h
    obtain ⟨h2, h⟩ := ba h
    obtain ⟨h3, h⟩ := ba h
    obtain ⟨h4, h5⟩ := ba h
    exact l_dvm B h1 h2 h3 (g_pe B a _ h4) (g_pe B b _ h5)
  | .len a, e, h => by
    unfold ch at h
    split at h <;> first | (cases h; done) | skip
    obtain ⟨h1, h⟩ := ba h
    obtain ⟨h2, h3⟩ := ba h
    exact l_len B h1 h2 (g_pe B a _ h3)
  | .tolist a, e, h => by
    unfold ch at h
    split at h <;> first | (cases h; done) | skip
    obtain ⟨h1, h⟩ := ba h
    obtain ⟨h2, h3⟩ := ba h
    exact l_tolist B h1 h2 (g_pe B a _ h3)
  | .ctup t a, e, h => by
    unfold ch at h
    split at h <;> first | (cases h; done) | skip
    obtain ⟨h1, h⟩ := ba h
    obtain ⟨h2, h⟩ := ba h
    obtain ⟨h3, h4⟩ := ba h
    exact l_ctup B (dec h1) h2 h3 (g_pe B a _ h4)
  | .at_ a i, e, h => by
    unfold ch at h
    split at h <;> first | (cases h; done) | skip
    obtain ⟨h1, h⟩ := ba h
    obtain ⟨h2, h3⟩ := ba h
    exact l_at h1 (g_pe B a _ h2) (g_pe B i _ h3)
  | .from_ a k, e, h => by
    unfold ch at h
    split at h <;> first | (cases h; done) | skip
    obtain ⟨h1, h2⟩ := ba h
    exact l_from (dec h1) (g_pe B a _ h2)
  | .cutl a lo hi, e, h => by
    unfold ch at h
    split at h <;> first | (cases h; done) | skip
    obtain ⟨h1, h⟩ := ba h
    obtain ⟨h2, h3⟩ := ba h
    exact l_cutl (g_pe B a _ h1) (g_pe B lo _ h2) (g_pe B hi _ h3)
  | .tup l, e, h => by
    unfold ch at h
    split at h <;> first | (cases h; done) | skip
    obtain ⟨h1, h2⟩ := ba h
    exact l_tup (dec h1) (g_pa B l _ h2)
  | .lst l, e, h => by
    unfold ch at h
    split at h <;> first | (cases h; done) | skip
    obtain ⟨h1, h2⟩ := ba h
    exact l_lst (dec h1) (g_pa B l _ h2)
  | .cat a b, e, h => by
    unfold ch at h
    split at h <;> first | (cases h; done) | skip
    obtain ⟨h1, h⟩ := ba h
    obtain ⟨h2, h3⟩ := ba h
    rw [dec h1]
    exact l_cat (g_pe B a _ h2) (g_pe B b _ h3)
  | .fld f o, e, h => by
    unfold ch at h
    split at h <;> first | (cases h; done) | skip
    obtain ⟨h1, h2⟩ := ba h
    rw [dec h1]
    exact l_fld B (g_pe B o _ h2)
  | .part p o i, e, h => by
    unfold ch at h
    split at h <;> first | (cases h; done) | skip
    obtain ⟨h1, h⟩ := ba h
    obtain ⟨h2, h⟩ := ba h
    obtain ⟨h3, h4⟩ := ba h
    rw [dec h1]
    exact l_part B h2 (g_pe B o _ h3) (g_pe B i _ h4)
  | .wlen o, e, h => by
    unfold ch at h
    split at h <;> first | (cases h; done) | skip
    obtain ⟨h1, h⟩ := ba h
    obtain ⟨h2, h3⟩ := ba h
    rw [dec h2]
    exact l_wlen B h1 (g_pe B o _ h3)
  | .word o i, e, h => by
    unfold ch at h
    split at h <;> first | (cases h; done) | skip
    obtain ⟨h1, h⟩ := ba h
    obtain ⟨h2, h⟩ := ba h
    obtain ⟨h3, h4⟩ := ba h
    rw [dec h1]
    exact l_word B h2 (g_pe B o _ h3) (g_pe B i _ h4)
  | .pcut o lo hi, e, h => by
    unfold ch at h
    split at h <;> first | (cases h; done) | skip
    obtain ⟨h1, h⟩ := ba h
    obtain ⟨h2, h⟩ := ba h
    obtain ⟨h3, h4⟩ := ba h
    rw [dec h1]
    exact l_pcut B (g_pe B o _ h2) (g_pe B lo _ h3) (g_pe B hi _ h4)
theorem g_pt (B : Bd X g N sc nm lim) : ∀ (c : Ex) (e : Expr), isIte c = false → ch N sc nm lim c e = true → L2.PT X e (tGT X.K g c)
  | .not a, e, _, h => by
    unfold ch at h
    split at h <;> first | (cases h; done) | skip
    exact lt_not (g_pt B a _ (nb (ba h).1) (ba h).2)
  | .cmp o a b, e, _, h => by
    unfold ch at h
    split at h <;> first | (cases h; done) | skip
    obtain ⟨h1, h⟩ := ba h
    obtain ⟨h2, h3⟩ := ba h
    rw [dec h1]
    exact lt_cmp (g_pe B a _ h2) (g_pe B b _ h3)
  | .chn o p a b c, e, _, h => by
    unfold ch at h
    split at h <;> first | (cases h; done) | skip
    obtain ⟨h1, h⟩ := ba h
    obtain ⟨h2, h⟩ := ba h
    obtain ⟨h3, h⟩ := ba h
    obtain ⟨h4, h⟩ := ba h
    obtain ⟨h5, h6⟩ := ba h
    rw [dec h1, dec h2]
    exact lt_chn (g_pe B a _ h4) (g_pe B b _ h5) (g_pe B c _ h6) h3
  | .isin n a l, e, _, h => by
    unfold ch at h
    split at h <;> first | (cases h; done) | skip
    obtain ⟨h1, h⟩ := ba h
    obtain ⟨h2, h⟩ := ba h
    obtain ⟨h3, h4⟩ := ba h
    rw [dec h1]
    exact lt_isin (n := n) (dec h2) (g_pe B a _ h3) (g_pa B l _ h4)
  | .indic a d, e, _, h => by
    unfold ch at h
    split at h <;> first | (cases h; done) | skip
    obtain ⟨h1, h⟩ := ba h
    obtain ⟨h2, h3⟩ := ba h
    exact lt_indic B (dec h1) h2 (g_pe B a _ h3)
  | .conj l, e, _, h => by
    unfold ch at h
    split at h <;> first | (cases h; done) | skip
    obtain ⟨h1, h2⟩ := ba h
    exact (g_andW B l _ h1 h2).pt
  | .disj l, e, _, h => by
    unfold ch at h
    split at h <;> first | (cases h; done) | skip
    obtain ⟨h1, h2⟩ := ba h
    exact (g_orW B l _ h1 h2).pt
  | .var i, e, _, h => by
    have q := g_pe B (.var i) e h
    cases e <;> first | (unfold ch at h; cases h; done) | skip
    exact lt_val q fun _ => rfl
  | .call j l, e, _, h => by
    have q := g_pe B (.call j l) e h
    cases e <;> first | (unfold ch at h; cases h; done) | skip
    exact lt_val q fun _ => rfl
  | .int _, _, hi, _ => by cases hi
  | .bl _, _, hi, _ => by cases hi
  | .con _, _, hi, _ => by cases hi
  | .bin _ _ _, _, hi, _ => by cases hi
  | .neg _, _, hi, _ => by cases hi
  | .inv _, _, hi, _ => by cases hi
  | .diget _ _, _, hi, _ => by cases hi
  | .ite _ _ _, _, hi, _ => by cases hi
  | .meth _ _ _, _, hi, _ => by cases hi
  | .bits _, _, hi, _ => by cases hi
  | .meth0 _ _, _, hi, _ => by cases hi
  | .max2 _ _, _, hi, _ => by cases hi
  | .min2 _ _, _, hi, _ => by cases hi
  | .abs _, _, hi, _ => by cases hi
  | .dvm _ _, _, hi, _ => by cases hi
  | .len _, _, hi, _ => by cases hi
  | .tolist _, _, hi, _ => by cases hi
  | .ctup _ _, _, hi, _ => by cases hi
  | .at_ _ _, _, hi, _ => by cases hi
  | .from_ _ _, _, hi, _ => by cases hi
  | .cutl _ _ _, _, hi, _ => by cases hi
  | .tup _, _, hi, _ => by cases hi
  | .lst _, _, hi, _ => by cases hi
  | .cat _ _, _, hi, _ => by cases hi
  | .fld _ _, _, hi, _ => by cases hi
  | .part _ _ _, _, hi, _ => by cases hi
  | .wlen _, _, hi, _ => by cases hi
  | .word _ _, _, hi, _ => by cases hi
  | .pcut _ _ _, _, hi, _ => by cases hi
theorem g_pa (B : Bd X g N sc nm lim) : ∀ (l : Exs) (es : List Expr), chs N sc nm lim l es = true → L2.PA X es (tGA X.K g l)
  | .nil, es, h => by
    cases es with
    | cons _ _ => unfold chs at h; cases h
    | nil =>
      refine PA.imp pa_nil fun σ H Q ⟨s, m, P, S, q⟩ => ?_
      unfold evs at q
      exact q [] H P (Step.refl S.ma.thr) S.ma rfl
  | .cons a l, es, h => by
    cases es with
    | nil => unfold chs at h; cases h
    | cons x xs =>
      unfold chs at h
      obtain ⟨h1, h⟩ := ba h
      obtain ⟨h2, h3⟩ := ba h
      refine PA.imp (pa_cons (g_pe B a _ h2) (g_pa B l _ h3) (plain_star h1)) fun σ H Q ⟨s, m, P, S, q⟩ => ?_
      unfold evs at q
      refine one S q fun u v m1 H1 P1 st ma r q => ?_
      exact oneA (S.step st ma) q fun xs vs m2 H2 P2 st2 ma2 r2 q => q _ H2 P2 (st.trans st2) ma2 ⟨_, _, rfl, r.step st2 ma, r2⟩
theorem g_and (B : Bd X g N sc nm lim) : ∀ (l : Exs) (es : List Expr) {p : Pos}, allT l = true → chs N sc nm lim l es = true → L2.PE X (.BoolOp .And es p) (tG X.K g (.conj l))
  | .nil, es, p, _, h => by
    cases es with
    | cons _ _ => unfold chs at h; cases h
    | nil => exact ⟨fun pins s σ H Q I ⟨s', m, P, S, q⟩ => by unfold ev evAnd at q; exact q.elim⟩
  | .cons a .nil, es, p, t, h => by
    cases es with
    | nil => unfold chs at h; cases h
    | cons x xs =>
      unfold chs at h
      obtain ⟨h1, h⟩ := ba h
      obtain ⟨h2, h3⟩ := ba h
      cases xs with
      | cons _ _ => unfold chs at h3; cases h3
      | nil => exact l_and1 (g_pe B a _ h2)
  | .cons a (.cons b r), es, p, t, h => by
    cases es with
    | nil => unfold chs at h; cases h
    | cons x xs =>
      unfold chs at h
      obtain ⟨h1, h⟩ := ba h
      obtain ⟨h2, h3⟩ := ba h
      have t2 : allT (.cons b r) = true := (ba t).2
      have ih : ∀ p, L2.PE X (.BoolOp .And xs p) (tG X.K g (.conj (.cons b r))) := fun p => g_and B (.cons b r) xs t2 h3
      cases xs with
      | nil => unfold chs at h3; cases h3
      | cons y ys => exact l_and2 (g_pe B a _ h2) (ih p)
theorem g_or (B : Bd X g N sc nm lim) : ∀ (l : Exs) (es : List Expr) {p : Pos}, allT l = true → chs N sc nm lim l es = true → L2.PE X (.BoolOp .Or es p) (tG X.K g (.disj l))
  | .nil, es, p, _, h => by
    cases es with
    | cons _ _ => unfold chs at h; cases h
    | nil => exact ⟨fun pins s σ H Q I ⟨s', m, P, S, q⟩ => by unfold ev evOr at q; exact q.elim⟩
  | .cons a .nil, es, p, t, h => by
    cases es with
    | nil => unfold chs at h; cases h
    | cons x xs =>
      unfold chs at h
      obtain ⟨h1, h⟩ := ba h
      obtain ⟨h2, h3⟩ := ba h
      cases xs with
      | cons _ _ => unfold chs at h3; cases h3
      | nil => exact l_or1 (g_pe B a _ h2)
  | .cons a (.cons b r), es, p, t, h => by
    cases es with
    | nil => unfold chs at h; cases h
    | cons x xs =>
      unfold chs at h
      obtain ⟨h1, h⟩ := ba h
      obtain ⟨h2, h3⟩ := ba h
      have t2 : allT (.cons b r) = true := (ba t).2
      have ih : ∀ p, L2.PE X (.BoolOp .Or xs p) (tG X.K g (.disj (.cons b r))) := fun p => g_or B (.cons b r) xs t2 h3
      cases xs with
      | nil => unfold chs at h3; cases h3
      | cons y ys => exact l_or2 (g_pe B a _ h2) (ih p)
theorem g_andW (B : Bd X g N sc nm lim) : ∀ (l : Exs) (es : List Expr) {p : Pos}, allT l = true → chs N sc nm lim l es = true → L2.PW X (.BoolOp .And es p) (tGT X.K g (.conj l))
  | .nil, es, p, _, h => by
    cases es with
    | cons _ _ => unfold chs at h; cases h
    | nil => exact ⟨fun wh pins s σ H Q I ⟨s', m, P, S, q⟩ => by unfold ev evAnd at q; exact q.elim⟩
  | .cons a .nil, es, p, t, h => by
    cases es with
    | nil => unfold chs at h; cases h
    | cons x xs =>
      unfold chs at h
      obtain ⟨h1, h⟩ := ba h
      obtain ⟨h2, h3⟩ := ba h
      cases xs with
      | cons _ _ => unfold chs at h3; cases h3
      | nil => exact lw_and1 (g_pt B a _ (nb (ba t).1) h2)
  | .cons a (.cons b r), es, p, t, h => by
    cases es with
    | nil => unfold chs at h; cases h
    | cons x xs =>
      unfold chs at h
      obtain ⟨h1, h⟩ := ba h
      obtain ⟨h2, h3⟩ := ba h
      have t2 : allT (.cons b r) = true := (ba t).2
      have ih : ∀ p, L2.PW X (.BoolOp .And xs p) (tGT X.K g (.conj (.cons b r))) := fun p => g_andW B (.cons b r) xs t2 h3
      cases xs with
      | nil => unfold chs at h3; cases h3
      | cons y ys => exact lw_and2 (g_pt B a _ (nb (ba t).1) h2) (ih p)
theorem g_orW (B : Bd X g N sc nm lim) : ∀ (l : Exs) (es : List Expr) {p : Pos}, allT l = true → chs N sc nm lim l es = true → L2.PW X (.BoolOp .Or es p) (tGT X.K g (.disj l))
  | .nil, es, p, _, h => by
    cases es with
    | cons _ _ => unfold chs at h; cases h
    | nil => exact ⟨fun wh pins s σ H Q I ⟨s', m, P, S, q⟩ => by unfold ev evOr at q; exact q.elim⟩
  | .cons a .nil, es, p, t, h => by
    cases es with
    | nil => unfold chs at h; cases h
    | cons x xs =>
      unfold chs at h
      obtain ⟨h1, h⟩ := ba h
      obtain ⟨h2, h3⟩ := ba h
      cases xs with
      | cons _ _ => unfold chs at h3; cases h3
      | nil => exact lw_or1 (g_pt B a _ (nb (ba t).1) h2)
  | .cons a (.cons b r), es, p, t, h => by
    cases es with
    | nil => unfold chs at h; cases h
    | cons x xs =>
      unfold chs at h
      obtain ⟨h1, h⟩ := ba h
      obtain ⟨h2, h3⟩ := ba h
      have t2 : allT (.cons b r) = true := (ba t).2
      have ih : ∀ p, L2.PW X (.BoolOp .Or xs p) (tGT X.K g (.disj (.cons b r))) := fun p => g_orW B (.cons b r) xs t2 h3
      cases xs with
      | nil => unfold chs at h3; cases h3
      | cons y ys => exact lw_or2 (g_pt B a _ (nb (ba t).1) h2) (ih p)
end
end
end FHG
end
section
set_option linter.all false
set_option Elab.async false
set_option maxRecDepth 100000
set_option maxHeartbeats 4000000
namespace FHG
open PySem PySem.Spec PyProof.Rows L2 FH

/-! ### the checker of statements -/
section
variable (N : List Str) (sc : Scope) (nm : Nm) (lim : Nat)
def chLoc (i : Nat) (x : Str) : Bool := decide (N[i]? = some x) && (decide (sc.names.lookup x = some .local) || decide (sc.names.lookup x = some .cell))
def chLocs : List Nat → List Expr → Bool
  | [], es => (match es with
    | [] => true
    | _ => false)
  | i :: is, es => (match es with
    | .Name x _ :: r => chLoc N sc i x && chLocs is r
    | _ => false)
def notTup : Expr → Bool
  | .Tuple .. => false
  | _ => true
mutual
def chS : FH.St → Stmt → Bool
  | .set i c, t => (match t with
    | .Assign [.Name x _] e _ => chLoc N sc i x && (plainE e && ch N sc nm lim c e)
    | _ => false)
  | .unpack is c, t => (match t with
    | .Assign [.Tuple ts _ _] e _ => chLocs N sc is ts && (notTup e && (plainE e && ch N sc nm lim c e))
    | _ => false)
  | .setF f o c, t => (match t with
    | .Assign [.Attribute (.Name z pz) y _] e _ => decide (y = fldN f) && (plainE e && (ch N sc nm lim o (.Name z pz) && ch N sc nm lim c e))
    | _ => false)
  | .setP p o i c, t => (match t with
    | .Assign [.Subscript (.Attribute (.Name z pz) y _) x _] e _ => decide (y = partN p) && (plainE e && (plainE x && (ch N sc nm lim o (.Name z pz) && (ch N sc nm lim i x && ch N sc nm lim c e))))
    | _ => false)
  | .setW o c, t => (match t with
    | .Assign [.Attribute (.Name z pz) y _] e _ => decide (y = "words") && (plainE e && (ch N sc nm lim o (.Name z pz) && ch N sc nm lim c e))
    | _ => false)
  | .ite c a b, t => (match t with
    | .If e x y _ => !isIte c && (ch N sc nm lim c e && (chSs a x && chSs b y))
    | _ => false)
  | .ret c, t => (match t with
    | .Return (some e) _ => ch N sc nm lim c e
    | _ => false)
  | .drop c, t => (match t with
    | .Expr e _ => plainE e && ch N sc nm lim c e
    | _ => false)
  | .fault c v, t => (match t with
    | .Raise (some (.Call (.Name f _) [x, y] [] _)) none _ => chB sc f "Fault" && (plainE x && (plainE y && (ch N sc nm lim c x && ch N sc nm lim v y)))
    | _ => false)
  | .for_ i n b, t => (match t with
    | .For (.Name x _) (.Call (.Name f _) [y] [] _) body [] _ => chB sc f "range" && (chLoc N sc i x && (plainE y && (ch N sc nm lim n y && chSs b body)))
    | _ => false)
  | .fort i c b, t => (match t with
    | .For (.Name x _) (.Name z pz) body [] _ => chLoc N sc i x && (ch N sc nm lim c (.Name z pz) && chSs b body)
    | _ => false)
  | .enum_ i j c b, t => (match t with
    | .For (.Tuple ts _ _) (.Call (.Name f _) [y] [] _) body [] _ => chB sc f "enumerate" && (chLocs N sc [i, j] ts && (plainE y && (ch N sc nm lim c y && chSs b body)))
    | _ => false)
  | .while_ c b, t => (match t with
    | .While e body [] _ => !isIte c && (ch N sc nm lim c e && chSs b body)
    | _ => false)
def chSs : FH.Sts → List Stmt → Bool
  | .nil, ts => (match ts with
    | [] => true
    | _ => false)
  | .cons a l, ts => (match ts with
    | t :: r => chS a t && chSs l r
    | _ => false)
end
end

/-! ### readings -/
def tS (K : PySem.W.Frag) (g : Gh) (c : FH.St) : TS := fun D σ H => ∃ s m P, SR K g s m P σ H ∧ ex g.T g.F c s m (fun s' m' => ∀ σ' H' P', ER K g.a g.Sh H' P' s' σ' → Step g.a g.Sh H P H' P' → MAt g.C g.a H' P' m' → D.nx σ' H')
  (fun pv m' => ∀ v H' P', Step g.a g.Sh H P H' P' → MAt g.C g.a H' P' m' → Rl K g.a g.Sh H' P' pv v → D.rt v H')
def tSs (K : PySem.W.Frag) (g : Gh) (c : FH.Sts) : TS := fun D σ H => ∃ s m P, SR K g s m P σ H ∧ exs g.T g.F c s m (fun s' m' => ∀ σ' H' P', ER K g.a g.Sh H' P' s' σ' → Step g.a g.Sh H P H' P' → MAt g.C g.a H' P' m' → D.nx σ' H')
  (fun pv m' => ∀ v H' P', Step g.a g.Sh H P H' P' → MAt g.C g.a H' P' m' → Rl K g.a g.Sh H' P' pv v → D.rt v H')
theorem PS.imp {X : Cx} {e : Stmt} {t t' : TS} (p : L2.PS X e t) (h : ∀ D σ H, t' D σ H → t D σ H) : L2.PS X e t' := ⟨fun pins s σ H D I q => p.run pins s σ H D I (h _ _ _ q)⟩
theorem PSs.imp {X : Cx} {e : List Stmt} {t t' : TS} (p : L2.PSs X e t) (h : ∀ D σ H, t' D σ H → t D σ H) : L2.PSs X e t' := ⟨fun pins s σ H D I q => p.run pins s σ H D I (h _ _ _ q)⟩

section
variable {K : PySem.W.Frag} {C a : Addr} {Sh : Addr → Prop} {H : Hp} {P P' : Pt} {m m' : M}
/-- the machine's own object is written -/
theorem MAt.put (hM : MAt C a H P m) (e1 : P'.dx = P.dx ∧ P'.ax = P.ax ∧ P'.af = P.af ∧ P'.am = P.am ∧ P'.gen = P.gen) (e2 : m'.x = m.x ∧ m'.f = m.f ∧ m'.mem = m.mem ∧ m'.gen = m.gen) (hw : Rd H P'.aw (.lst (vI m'.words))) (wo : ¬ own P' P'.aw) (hs : P'.aw = P.aw ∨ Sh P'.aw) :
    MAt C a (upd H a (.ins C P.dx (mF P' m'))) P' m' ∧ Step a Sh H P (upd H a (.ins C P.dx (mF P' m'))) P' := by
  obtain ⟨d0, d1, d2, d3, d4⟩ := e1
  obtain ⟨c1, c2, c3, c4⟩ := e2
  have k : ∀ b o, H b = some o → (∀ C dx fs, o ≠ .ins C dx fs) → upd H a (.ins C P.dx (mF P' m')) b = some o := fun b o e n => by
    rw [upd_ne (hM.ne_a e n)]
    exact e
  refine ⟨⟨?_, ?_, ?_, ?_, ?_, ?_, ?_, ?_, wo, ?_⟩, ⟨fun b o e n _ => ?_, fun b z => .inl ?_, fun b h => ?_, hs, ?_, fun _ => ⟨d1, d2, d3⟩⟩⟩
  · rw [upd_same, d0]
  · rw [d1, c1]
    exact k _ _ hM.hx fun _ _ _ z => nomatch z
  · rw [d2, c2]
    exact k _ _ hM.hf fun _ _ _ z => nomatch z
  · rw [d3, c3]
    exact k _ _ hM.hm fun _ _ _ z => nomatch z
  · rcases hw with e | ⟨o, e⟩
    · exact .inl (k _ _ e fun _ _ _ z => nomatch z)
    · exact .inr ⟨o, k _ _ e fun _ _ _ z => nomatch z⟩
  · rw [d1, d2]
    exact hM.xf
  · rw [d1, d3]
    exact hM.xm
  · rw [d2, d3]
    exact hM.fm
  · rw [d4, c4]
    exact hM.gn
  · rw [upd_ne n]
    exact e
  · unfold own at *
    rw [d1, d2, d3] at z
    exact z
  · by_cases hb : b = a
    · rw [hb, upd_same]
      exact fun z => nomatch z
    · rw [upd_ne hb]
      exact h
  · omega
/-- a part is written -/
theorem MAt.lay (h : MAt C a H P m) (p : Part) (l : List Int) : MAt C a (upd H (partA P p) (.lst (vI l))) P (m.lay p l) ∧ Step a Sh H P (upd H (partA P p) (.lst (vI l))) P := by
  have ho : own P (partA P p) := by
    cases p
    · exact .inl rfl
    · exact .inr (.inl rfl)
    · exact .inr (.inr rfl)
  have na : a ≠ partA P p := fun z => h.ne_a (h.part p) (fun _ _ _ z => nomatch z) z.symm
  have nw : P.aw ≠ partA P p := fun z => h.wo (by rw [z]; exact ho)
  refine ⟨⟨?_, ?_, ?_, ?_, ?_, h.xf, h.xm, h.fm, h.wo, ?_⟩, ⟨fun b o e _ n => ?_, fun b z => .inl z, fun b hb => ?_, .inl rfl, Nat.le_refl _, fun _ => ⟨rfl, rfl, rfl⟩⟩⟩
  · rw [upd_ne na, h.ob]
    cases p <;> rfl
  · cases p
    · exact upd_same
    · show upd H P.af _ P.ax = _
      rw [upd_ne h.xf]
      exact h.hx
    · show upd H P.am _ P.ax = _
      rw [upd_ne h.xm]
      exact h.hx
  · cases p
    · show upd H P.ax _ P.af = _
      rw [upd_ne h.xf.symm]
      exact h.hf
    · exact upd_same
    · show upd H P.am _ P.af = _
      rw [upd_ne h.fm]
      exact h.hf
  · cases p
    · show upd H P.ax _ P.am = _
      rw [upd_ne h.xm.symm]
      exact h.hm
    · show upd H P.af _ P.am = _
      rw [upd_ne h.fm.symm]
      exact h.hm
    · exact upd_same
  · have e : (m.lay p l).words = m.words := by cases p <;> rfl
    rw [e]
    rcases h.hw with q | ⟨o, q⟩
    · exact .inl (by rw [upd_ne nw]; exact q)
    · exact .inr ⟨o, by rw [upd_ne nw]; exact q⟩
  · rw [h.gn]
    cases p <;> rfl
  · rw [upd_ne (fun z => n (by rw [z]; exact ho))]
    exact e
  · by_cases z : b = partA P p
    · rw [z, upd_same]
      exact fun z => nomatch z
    · rw [upd_ne z]
      exact hb
theorem put_fld (P : Pt) (m : M) (f : Fld) (i : Int) : putF (fldN f) (.int i) (mF P m) = mF P (m.put f i) := by
  cases f <;> rfl
theorem put_words (P : Pt) (m : M) (l : List Int) (p : Addr) : putF ("words" : Str) (.ref p) (mF P m) = mF { P with aw := p } { m with words := l } := rfl
end

section
variable {X : Cx} {g : Gh} {N : List Str} {sc : Scope} {nm : Nm} {lim : Nat} {c d o i b : Ex} {e x y : Expr} {p q pos : Pos}
theorem loc_of (B : Bd X g N sc nm lim) {j : Nat} {f : Str} (h : chLoc N sc j f = true) : X.N[j]? = some f ∧ L2.Loc X.env.scope f := by
  obtain ⟨h1, h2⟩ := ba h
  unfold L2.Loc
  rw [B.N, B.sc]
  exact ⟨dec h1, (Bool.or_eq_true_iff.mp h2).imp dec dec⟩
theorem s_set (B : Bd X g N sc nm lim) {j : Nat} {f : Str} (h : chLoc N sc j f = true) (he : plainE e = true) (ha : L2.PE X e (tG X.K g c)) : L2.PS X (.Assign [.Name f p] e pos) (tS X.K g (.set j c)) := by
  obtain ⟨h1, h2⟩ := loc_of B h
  refine PS.imp (ps_set (i := j) B.nd h1 h2 ha (plain_swap he) (.inl (B.fnT _))) fun D σ H ⟨s, m, P, S, q⟩ => ?_
  unfold ex at q
  exact one S q fun u v m1 H1 P1 st ma r q => q _ H1 P1 (((S.er.step st S.ma)).set r j) st ma
def gAll : List Nat → TGs
  | [] => gNil
  | i :: is => gCons (gName i) (gAll is)
theorem g_targets (B : Bd X g N sc nm lim) : ∀ {is : List Nat} {ts : List Expr}, chLocs N sc is ts = true → L2.PGs X ts (gAll is) ∧ (assignEach ts X.env).length = is.length ∧ (assignEach ts X.env).findIdx? (·.1) = none
  | [], ts, h => by
    cases ts with
    | nil => exact ⟨pgs_nil, rfl, rfl⟩
    | cons _ _ => unfold chLocs at h; cases h
  | j :: is, ts, h => by
    unfold chLocs at h
    split at h <;> first | (cases h; done) | skip
    rename_i f pf r
    obtain ⟨h1, h2⟩ := ba h
    obtain ⟨a1, a2⟩ := loc_of B h1
    obtain ⟨i1, i2, i3⟩ := g_targets B h2
    refine ⟨pgs_cons (pg_name (i := j) B.nd a1 a2 (.inl (B.fnT _))) i1, ?_, ?_⟩
    · show (_ :: assignEach r X.env).length = _
      rw [List.length_cons, i2]
      rfl
    · show ((false, assign (.Name f pf) X.env) :: assignEach r X.env).findIdx? (·.1) = none
      rw [List.findIdx?_cons, i3]
      rfl
theorem all_of {K : PySem.W.Frag} {a : Addr} {Sh : Addr → Prop} {P : Pt} : ∀ {is : List Nat} {l : List Int} {s : FH.Env} {σ : L2.St} {H : Hp} {Q : L2.St → Hp → Prop}, l.length = is.length → ER K a Sh H P s σ → (∀ σ', ER K a Sh H P (setAll is l s) σ' → Q σ' H) → gAll is (vI l) σ H Q
  | [], l, s, σ, H, Q, hl, er, h => by
    cases l with
    | cons _ _ => cases hl
    | nil => exact ⟨rfl, h σ er⟩
  | i :: is, l, s, σ, H, Q, hl, er, h => by
    cases l with
    | nil => cases hl
    | cons v l =>
      refine ⟨.int v, vI l, rfl, ?_⟩
      exact all_of (s := s.set i (some (.int v))) (Nat.succ.inj hl) (er.set (x := .int v) (v := .int v) rfl i) h
theorem PG.or {t : Expr} {t1 t2 : TG} (h1 : L2.PG X t t1) (h2 : L2.PG X t t2) : L2.PG X t (fun v σ H Q => t1 v σ H Q ∨ t2 v σ H Q) := ⟨fun pins s σ H v u Q I r q => q.elim (h1.run pins s σ H v u Q I r) (h2.run pins s σ H v u Q I r)⟩
theorem s_unpack (B : Bd X g N sc nm lim) {is : List Nat} {ts : List Expr} {k : Nat} {pt : Pos} (h : chLocs N sc is ts = true) (ht : notTup e = true) (he : plainE e = true) (ha : L2.PE X e (tG X.K g c)) : L2.PS X (.Assign [.Tuple ts k pt] e pos) (tS X.K g (.unpack is c)) := by
  obtain ⟨h1, h2, h3⟩ := g_targets B h
  have hw : swappedStores [.Tuple ts k pt] e X.env = pure none := by
    cases e <;> first | rfl | cases ht
  refine PS.imp (ps_asg ha (PG.or (pg_tup B.calm h1 h2 h3) (pg_unl B.calm h1 h2 h3)) (plain_sole he) hw) fun D σ H ⟨s, m, P, S, q⟩ => ?_
  unfold ex at q
  refine one S q fun u v m1 H1 P1 st ma r q => ?_
  cases u <;> first | exact q.elim | skip
  · rename_i l
    obtain ⟨q0, e0, hq⟩ := r
    obtain ⟨hl, q⟩ := q
    exact .inl ⟨q0, _, e0, hq, by rw [List.length_map, hl], all_of hl (S.er.step st S.ma) fun σ' er => q σ' H1 P1 er st ma⟩
  · rename_i l
    obtain ⟨q0, e0, hq, _⟩ := r
    obtain ⟨hl, q⟩ := q
    exact .inr ⟨q0, _, e0, .inl hq, by rw [List.length_map, hl], all_of hl (S.er.step st S.ma) fun σ' er => q σ' H1 P1 er st ma⟩
theorem s_setF (B : Bd X g N sc nm lim) {f : Fld} {v : Str} {pv p2 : Pos} (he : plainE e = true) (ho : L2.PE X (.Name v pv) (tG X.K g o)) (ha : L2.PE X e (tG X.K g c)) : L2.PS X (.Assign [.Attribute (.Name v pv) (fldN f) p2] e pos) (tS X.K g (.setF f o c)) := by
  refine PS.imp (ps_fld ho ha (plain_swap he)) fun D σ H ⟨s, m, P, S, q⟩ => ?_
  unfold ex at q
  refine two S q fun u w u' w' m2 H2 P2 st ma r1 r2 q => ?_
  obtain ⟨e1, q⟩ := emach r2 q
  obtain ⟨j, e2, q⟩ := eint r1 q
  subst e2
  refine ⟨g.a, g.C, P2.dx, _, e1, ma.ob, B.cl, B.na _ (fld_attr f), by show 9 < 1000; decide, ?_⟩
  rw [put_fld]
  obtain ⟨m3, s3⟩ := ma.put (P' := P2) (m' := m2.put f j) ⟨rfl, rfl, rfl, rfl, rfl⟩ (by cases f <;> exact ⟨rfl, rfl, rfl, rfl⟩) (by cases f <;> exact ma.hw) ma.wo (.inl rfl)
  exact q _ _ P2 ((S.er.step st S.ma).step s3 ma) (st.trans s3) m3
theorem s_setW (B : Bd X g N sc nm lim) {v : Str} {pv p2 : Pos} (he : plainE e = true) (ho : L2.PE X (.Name v pv) (tG X.K g o)) (ha : L2.PE X e (tG X.K g c)) : L2.PS X (.Assign [.Attribute (.Name v pv) "words" p2] e pos) (tS X.K g (.setW o c)) := by
  refine PS.imp (ps_fld ho ha (plain_swap he)) fun D σ H ⟨s, m, P, S, q⟩ => ?_
  unfold ex at q
  refine two S q fun u w u' w' m2 H2 P2 st ma r1 r2 q => ?_
  obtain ⟨e1, q⟩ := emach r2 q
  obtain ⟨p0, l, e2, hl, no, sh, q⟩ := elst r1 q
  subst e2
  refine ⟨g.a, g.C, P2.dx, _, e1, ma.ob, B.cl, B.na _ words_attr, by show 9 < 1000; decide, ?_⟩
  rw [put_words P2 m2 l p0]
  obtain ⟨m3, s3⟩ := ma.put (P' := { P2 with aw := p0 }) (m' := { m2 with words := l }) ⟨rfl, rfl, rfl, rfl, rfl⟩ ⟨rfl, rfl, rfl, rfl⟩ hl no (.inr sh)
  exact q _ _ _ ((S.er.step st S.ma).step s3 ma) (st.trans s3) m3
theorem sub_asg {o i : Expr} {env : PySem.Env} (h : plainE i = true) (v : Value) : assign (.Subscript o i pos) env v = (do
      let ov ← holding [v] (eval o env)
      let iv ← holding [v, ov] (eval i env)
      standAt pos
      holding [v, ov, iv] (setItem ov iv v)
      release [v, ov, iv] []) := by
  cases i <;> first | rfl | cases h
theorem ix_nn {n : Nat} {j : Int} (h0 : 0 ≤ j) (h1 : j < n) : ixN n j = some j.toNat := by
  unfold ixN
  rw [if_pos h0, if_pos h1]
theorem vI_set (l : List Int) (k : Nat) (v : Int) : (vI l).set k (.int v) = vI (l.set k v) := List.map_set.symm
theorem s_setP (B : Bd X g N sc nm lim) {f : Part} {v : Str} {pv p2 p3 : Pos} (he : plainE e = true) (hx : plainE x = true) (ho : L2.PE X (.Name v pv) (tG X.K g o)) (hi : L2.PE X x (tG X.K g i)) (ha : L2.PE X e (tG X.K g c)) :
    L2.PS X (.Assign [.Subscript (.Attribute (.Name v pv) (partN f) p2) x p3] e pos) (tS X.K g (.setP f o i c)) := by
  refine PS.imp (ps_asg ha (pg_sub (pe_fld ho rfl) hi set_list (sub_asg hx)) (plain_sole he) rfl) fun D σ H ⟨s, m, P, S, q⟩ => ?_
  unfold ex at q
  refine one S q fun u w m1 H1 P1 st ma r q => ?_
  refine one (S.step st ma) q fun u2 w2 m2 H2 P2 st2 ma2 r2 q => ?_
  obtain ⟨e1, q⟩ := emach r2 q
  refine ⟨g.a, g.C, P2.dx, _, _, e1, ma2.ob, B.cl, B.na _ (part_attr f), lk_part P2 m2 f, ?_⟩
  refine one (S.step (st.trans st2) ma2) q fun u3 w3 m3 H3 P3 st3 ma3 r3 q => ?_
  obtain ⟨j, e2, q⟩ := eint ((r.step st2 ma).step st3 ma2) q
  obtain ⟨k, e3, q⟩ := eint r3 q
  obtain ⟨⟨hg, h0, h1⟩, q⟩ := q
  have ep : partA P2 f = partA P3 f := (part_same st3 ma2 ma3 hg f).symm
  refine ⟨partA P2 f, vI (m3.part f), k, k.toNat, rfl, e3, by rw [ep]; exact ma3.part f, ix_nn h0 (by rw [List.length_map]; exact h1), ?_⟩
  rw [e2, vI_set, ep]
  obtain ⟨m4, s4⟩ := ma3.lay f ((m3.part f).set k.toNat j)
  exact q _ _ P3 ((((S.er.step st S.ma).step st2 ma).step st3 ma2).step s4 ma3) (((st.trans st2).trans st3).trans s4) m4
theorem s_ret (ha : L2.PE X e (tG X.K g c)) : L2.PS X (.Return (some e) pos) (tS X.K g (.ret c)) := by
  refine PS.imp (ps_ret ha) fun D σ H ⟨s, m, P, S, q⟩ => ?_
  unfold ex at q
  exact one S q fun u v m1 H1 P1 st ma r q => q v H1 P1 st ma r
theorem s_drop (he : plainE e = true) (ha : L2.PE X e (tG X.K g c)) : L2.PS X (.Expr e pos) (tS X.K g (.drop c)) := by
  refine PS.imp (ps_expr ha (plain_swap he)) fun D σ H ⟨s, m, P, S, q⟩ => ?_
  unfold ex at q
  exact one S q fun u v m1 H1 P1 st ma r q => q σ H1 P1 (S.er.step st S.ma) st ma
theorem s_if {ts fs : List Stmt} {t f : FH.Sts} (hc : L2.PT X e (tGT X.K g c)) (ht : L2.PSs X ts (tSs X.K g t)) (hf : L2.PSs X fs (tSs X.K g f)) : L2.PS X (.If e ts fs pos) (tS X.K g (.ite c t f)) := by
  refine PS.imp (ps_if hc ht hf) fun D σ H ⟨s, m, P, S, q⟩ => ?_
  unfold ex at q
  refine oneT S q fun u m1 q => onBl_mono (fun k w H1 P1 st ma => ?_) q
  cases k with
  | false => exact ⟨s, m1, P1, S.step st ma, exs_mono _ (fun s' m' h σ' H' P' er st' => h σ' H' P' er (st.trans st')) (fun v m' h u H' P' st' => h u H' P' (st.trans st')) w⟩
  | true => exact ⟨s, m1, P1, S.step st ma, exs_mono _ (fun s' m' h σ' H' P' er st' => h σ' H' P' er (st.trans st')) (fun v m' h u H' P' st' => h u H' P' (st.trans st')) w⟩
theorem s_fault (B : Bd X g N sc nm lim) {f : Str} {pf p2 : Pos} (h : chB sc f "Fault" = true) (hx : plainE x = true) (hy : plainE y = true) (hc : L2.PE X x (tG X.K g c)) (hd : L2.PE X y (tG X.K g d)) : L2.PS X (.Raise (some (.Call (.Name f pf) [x, y] [] p2)) none pos) (tS X.K g (.fault c d)) := by
  unfold chB at h
  obtain ⟨h1, h2⟩ := ba h
  have h1 := dec h1
  subst h1
  obtain ⟨h3, _⟩ := gl_of B h2
  refine PS.imp (ps_raise B.calm B.tk (B.flt x y _ _ pf p2 hx hy h3 hc hd)) fun D σ H ⟨s, m, P, S, q⟩ => ?_
  unfold ex at q
  refine two S q fun u w u' w' m2 H2 P2 st ma r1 r2 q => ?_
  obtain ⟨j, e1, q⟩ := eint r1 q
  obtain ⟨k, e2, q⟩ := eint r2 q
  subst e1 e2
  exact fun d hd => B.fl j k m2 d _ P2 q (S.st.trans (st.trans (.new ma.thr hd))) (ma.new hd) upd_same
/-- for i in range(n) -/
theorem s_for (B : Bd X g N sc nm lim) {j : Nat} {f v : Str} {pv pf p2 : Pos} {ts : List Stmt} {t : FH.Sts} (h : chB sc f "range" = true) (hj : chLoc N sc j v = true) (hx : plainE x = true) (hc : L2.PE X x (tG X.K g c)) (ht : L2.PSs X ts (tSs X.K g t)) :
    L2.PS X (.For (.Name v pv) (.Call (.Name f pf) [x] [] p2) ts [] pos) (tS X.K g (.for_ j c t)) := by
  obtain ⟨rfl, h1, h2, h3⟩ := blt_of B h (by decide +kernel)
  obtain ⟨a1, a2⟩ := loc_of B hj
  refine PS.imp (ps_for B.po B.calm (pi_range1 h1 h2 (pa1 hx hc) (plain_star hx)) (pg_name (i := j) B.nd a1 a2 (.inl (B.fnT _))) ht) fun D σ H ⟨s, m, P, S, q⟩ => ?_
  unfold ex at q
  refine one S q fun u w m1 H1 P1 st ma r q => ?_
  obtain ⟨n, e1, hn, W, w0, turn⟩ := eint r q
  subst e1
  refine ⟨n, rfl, by have := hn.1; omega, by have := hn.2; omega, for_range (fun i σ' H' => ∃ s' m' P', ER X.K g.a g.Sh H' P' s' σ' ∧ Step g.a g.Sh H P H' P' ∧ MAt g.C g.a H' P' m' ∧ W i s' m') ⟨s, m1, P1, S.er.step st S.ma, st, ma, w0⟩ (fun i σ' H' hi ⟨s', m', P', er, st', ma', w⟩ => ?_) fun σ' H' ⟨s', m', P', er, st', ma', w⟩ => ?_⟩
  · have q := turn i s' m' w
    rw [if_pos hi] at q
    have e0 : (0 : Int) + (i : Int) = (i : Int) := Int.zero_add _
    rw [e0]
    refine ⟨_, m', P', ⟨er.set (v := .int i) (x := .int i) rfl j, ma', S.st.trans st'⟩, exs_mono _ (fun s2 m2 h σ2 H2 P2 er2 st2 ma2 => ?_) (fun v m2 h u H2 P2 st2 ma2 r2 => h u H2 P2 (st'.trans st2) ma2 r2) q⟩
    exact ⟨s2, m2, P2, er2, st'.trans st2, ma2, h⟩
  · have q := turn _ s' m' w
    rw [if_neg (Nat.lt_irrefl _)] at q
    exact q σ' H' P' er st' ma'
/-- for x in a tuple -/
theorem s_fort (B : Bd X g N sc nm lim) {j : Nat} {v z : Str} {pv pz : Pos} {ts : List Stmt} {t : FH.Sts} (hj : chLoc N sc j v = true) (hc : L2.PE X (.Name z pz) (tG X.K g c)) (ht : L2.PSs X ts (tSs X.K g t)) :
    L2.PS X (.For (.Name v pv) (.Name z pz) ts [] pos) (tS X.K g (.fort j c t)) := by
  obtain ⟨a1, a2⟩ := loc_of B hj
  refine PS.imp (ps_for B.po B.calm (pi_tup hc) (pg_name (i := j) B.nd a1 a2 (.inl (B.fnT _))) ht) fun D σ H ⟨s, m, P, S, q⟩ => ?_
  unfold ex at q
  refine one S q fun u w m1 H1 P1 st ma r q => ?_
  cases u <;> first | exact q.elim | skip
  rename_i l
  obtain ⟨q0, e0, hq⟩ := r
  obtain ⟨W, w0, turn⟩ := q
  refine ⟨q0, e0, ⟨_, hq⟩, for_tup (xs := vI l) (fun i σ' H' => ∃ s' m' P', ER X.K g.a g.Sh H' P' s' σ' ∧ Step g.a g.Sh H1 P1 H' P' ∧ MAt g.C g.a H' P' m' ∧ W i s' m') ⟨s, m1, P1, S.er.step st S.ma, .refl ma.thr, ma, w0⟩
    (fun i σ' H' _ ⟨s', m', P', er, st', ma', w⟩ => st'.sqT ma hq) (fun i y σ' H' hi ⟨s', m', P', er, st', ma', w⟩ => ?_) fun σ' H' ⟨s', m', P', er, st', ma', w⟩ => ?_⟩
  · have hl : i < l.length := by
      have := (List.getElem?_eq_some_iff.mp hi).1
      rw [List.length_map] at this
      exact this
    have q := turn i s' m' w
    rw [if_pos hl] at q
    have ey : y = .int (l.getD i 0) := by
      rw [List.getElem?_map, List.getElem?_eq_getElem hl] at hi
      rw [← Option.some.inj hi]
      simp [List.getD, List.getElem?_eq_getElem hl]
    subst ey
    refine ⟨_, m', P', ⟨er.set (v := .int (l.getD i 0)) (x := .int (l.getD i 0)) rfl j, ma', S.st.trans (st.trans st')⟩, exs_mono _ (fun s2 m2 h σ2 H2 P2 er2 st2 ma2 => ?_) (fun v m2 h u H2 P2 st2 ma2 r2 => h u H2 P2 ((st.trans st').trans st2) ma2 r2) q⟩
    exact ⟨s2, m2, P2, er2, st'.trans st2, ma2, h⟩
  · rw [List.length_map] at w
    have q := turn _ s' m' w
    rw [if_neg (Nat.lt_irrefl _)] at q
    exact q σ' H' P' er (st.trans st') ma'
/-- for i, x in enumerate(a list) -/
theorem s_enum (B : Bd X g N sc nm lim) {i j : Nat} {f : Str} {pt pf p2 : Pos} {k : Nat} {es : List Expr} {ts : List Stmt} {t : FH.Sts} (h : chB sc f "enumerate" = true) (hj : chLocs N sc [i, j] es = true) (hx : plainE x = true) (hc : L2.PE X x (tG X.K g c)) (ht : L2.PSs X ts (tSs X.K g t)) :
    L2.PS X (.For (.Tuple es k pt) (.Call (.Name f pf) [x] [] p2) ts [] pos) (tS X.K g (.enum_ i j c t)) := by
  obtain ⟨rfl, h1, h2, h3⟩ := blt_of B h (by decide +kernel)
  obtain ⟨t1, t2, t3⟩ := g_targets B hj
  refine PS.imp (ps_for B.po B.calm (pi_enum h1 h2 (pa1 hx hc) (plain_star hx)) (pg_tup B.calm t1 t2 t3) ht) fun D σ H ⟨s, m, P, S, q⟩ => ?_
  unfold ex at q
  refine one S q fun u w m1 H1 P1 st ma r q => ?_
  obtain ⟨q0, l, e0, hq, no, _, q⟩ := elst r q
  obtain ⟨W, w0, turn⟩ := q
  subst e0
  refine ⟨q0, vI l, rfl, .inl hq, fun n mm σ' H' => mm = l.length - n ∧ n ≤ l.length ∧ ∃ s' m' P', ER X.K g.a g.Sh H' P' s' σ' ∧ Step g.a g.Sh H1 P1 H' P' ∧ MAt g.C g.a H' P' m' ∧ W n s' m', ⟨_, rfl, Nat.zero_le _, s, m1, P1, S.er.step st S.ma, .refl ma.thr, ma, w0⟩, ?_⟩
  rintro n mm σ' H' ⟨rfl, hn, s', m', P', er, st', ma', w⟩
  have hq' : SqL X.K H' q0 (vI l) := .inl (st'.rdL ma hq no).1
  have q := turn n s' m' w
  by_cases hl : n < l.length
  · rw [if_pos hl] at q
    refine .inr ⟨⟨vI l, .int l[n], hq', by rw [List.getElem?_map, List.getElem?_eq_getElem hl]; rfl⟩, fun σ2 H2 => n + 1 ≤ l.length ∧ ∃ s' m' P', ER X.K g.a g.Sh H2 P' s' σ2 ∧ Step g.a g.Sh H1 P1 H2 P' ∧ MAt g.C g.a H2 P' m' ∧ W (n + 1) s' m', fun σ2 H2 ⟨h1, h2⟩ => ⟨l.length - (n + 1), by omega, rfl, h1, h2⟩, fun y H2 hy => ?_⟩
    obtain ⟨T, z, rfl, hT, rfl, hz⟩ := hy
    have ez : z = .int (l.getD n 0) := by
      have := hz _ hq'
      rw [List.getElem?_map, List.getElem?_eq_getElem hl] at this
      rw [← Option.some.inj this]
      simp [List.getD, List.getElem?_eq_getElem hl]
    subst ez
    have st2 : Step g.a g.Sh H' P' (upd H' T (.tup [.int (n : Nat), .int (l.getD n 0)])) P' := .new ma'.thr hT
    have ma2 := ma'.new (o := .tup [.int (n : Nat), .int (l.getD n 0)]) hT
    refine ⟨T, vI [(n : Int), l.getD n 0], rfl, .of upd_same, rfl, all_of (is := [i, j]) (l := [(n : Int), l.getD n 0]) rfl (er.step st2 ma') fun σ3 er3 => ?_⟩
    refine ⟨_, m', P', ⟨er3, ma2, S.st.trans (st.trans (st'.trans st2))⟩, exs_mono _ (fun s4 m4 h σ4 H4 P4 er4 st4 ma4 => ?_) (fun v m4 h u H4 P4 st4 ma4 r4 => h u H4 P4 ((st.trans (st'.trans st2)).trans st4) ma4 r4) q⟩
    exact ⟨hl, s4, m4, P4, er4, (st'.trans st2).trans st4, ma4, h⟩
  · rw [if_neg hl] at q
    exact .inl ⟨⟨vI l, hq', by rw [List.length_map]; omega⟩, q σ' H' P' er (st.trans st') ma'⟩
/-- while -/
theorem s_while (B : Bd X g N sc nm lim) {ts : List Stmt} {t : FH.Sts} (hc : L2.PT X e (tGT X.K g c)) (ht : L2.PSs X ts (tSs X.K g t)) : L2.PS X (.While e ts [] pos) (tS X.K g (.while_ c t)) := by
  refine PS.imp (ps_while B.po hc ht) fun D σ H ⟨s, m, P, S, q⟩ => ?_
  unfold ex at q
  obtain ⟨W, ⟨n0, w0⟩, turn⟩ := q
  refine ⟨fun n σ' H' => ∃ s' m' P', ER X.K g.a g.Sh H' P' s' σ' ∧ Step g.a g.Sh H P H' P' ∧ MAt g.C g.a H' P' m' ∧ W n s' m', ⟨n0, s, m, P, S.er, .refl S.ma.thr, S.ma, w0⟩, fun n σ1 H1 ⟨s1, m1, P1, er1, st1, ma1, w1⟩ => ?_⟩
  have S1 : SR X.K g s1 m1 P1 σ1 H1 := ⟨er1, ma1, S.st.trans st1⟩
  refine oneT S1 (turn n s1 m1 w1) fun u m2 q => onBl_mono (fun k w H2 P2 st2 ma2 => ?_) q
  cases k with
  | false => exact w σ1 H2 P2 (er1.step st2 ma1) (st1.trans st2) ma2
  | true =>
    refine ⟨fun σ' H' => ∃ n', n' < n ∧ ∃ s' m' P', ER X.K g.a g.Sh H' P' s' σ' ∧ Step g.a g.Sh H P H' P' ∧ MAt g.C g.a H' P' m' ∧ W n' s' m', fun σ' H' ⟨n', l, r⟩ => ⟨n', l, r⟩, ?_⟩
    refine ⟨s1, m2, P2, S1.step st2 ma2, exs_mono _ (fun s3 m3 h σ3 H3 P3 er3 st3 ma3 => ?_) (fun v m3 h u H3 P3 st3 ma3 r3 => h u H3 P3 ((st1.trans st2).trans st3) ma3 r3) w⟩
    obtain ⟨n', l, w'⟩ := h
    exact ⟨n', l, s3, m3, P3, er3, (st1.trans st2).trans st3, ma3, w'⟩
mutual
theorem g_ps (B : Bd X g N sc nm lim) : ∀ (c : FH.St) (t : Stmt), chS N sc nm lim c t = true → L2.PS X t (tS X.K g c)
  | .set i c, t, h => by
    unfold chS at h
    split at h <;> first | (cases h; done) | skip
    obtain ⟨h1, h⟩ := ba h
    obtain ⟨h2, h3⟩ := ba h
    exact s_set B h1 h2 (g_pe B c _ h3)
  | .unpack is c, t, h => by
    unfold chS at h
    split at h <;> first | (cases h; done) | skip
    obtain ⟨h1, h⟩ := ba h
    obtain ⟨h2, h⟩ := ba h
    obtain ⟨h3, h4⟩ := ba h
    exact s_unpack B h1 h2 h3 (g_pe B c _ h4)
  | .setF f o c, t, h => by
    unfold chS at h
    split at h <;> first | (cases h; done) | skip
    obtain ⟨h1, h⟩ := ba h
    obtain ⟨h2, h⟩ := ba h
    obtain ⟨h3, h4⟩ := ba h
    rw [dec h1]
    exact s_setF B h2 (g_pe B o _ h3) (g_pe B c _ h4)
  | .setP p o i c, t, h => by
    unfold chS at h
    split at h <;> first | (cases h; done) | skip
    obtain ⟨h1, h⟩ := ba h
    obtain ⟨h2, h⟩ := ba h
    obtain ⟨h3, h⟩ := ba h
    obtain ⟨h4, h⟩ := ba h
    obtain ⟨h5, h6⟩ := ba h
    rw [dec h1]
    exact s_setP B h2 h3 (g_pe B o _ h4) (g_pe B i _ h5) (g_pe B c _ h6)
  | .setW o c, t, h => by
    unfold chS at h
    split at h <;> first | (cases h; done) | skip
    obtain ⟨h1, h⟩ := ba h
    obtain ⟨h2, h⟩ := ba h
    obtain ⟨h3, h4⟩ := ba h
    rw [dec h1]
    exact s_setW B h2 (g_pe B o _ h3) (g_pe B c _ h4)
  | .ite c a b, t, h => by
    unfold chS at h
    split at h <;> first | (cases h; done) | skip
    obtain ⟨h1, h⟩ := ba h
    obtain ⟨h2, h⟩ := ba h
    obtain ⟨h3, h4⟩ := ba h
    exact s_if (g_pt B c _ (nb h1) h2) (g_pss B a _ h3) (g_pss B b _ h4)
  | .ret c, t, h => by
    unfold chS at h
    split at h <;> first | (cases h; done) | skip
    exact s_ret (g_pe B c _ h)
  | .drop c, t, h => by
    unfold chS at h
    split at h <;> first | (cases h; done) | skip
    obtain ⟨h1, h2⟩ := ba h
    exact s_drop h1 (g_pe B c _ h2)
  | .fault c d, t, h => by
    unfold chS at h
    split at h <;> first | (cases h; done) | skip
    obtain ⟨h1, h⟩ := ba h
    obtain ⟨h2, h⟩ := ba h
    obtain ⟨h3, h⟩ := ba h
    obtain ⟨h4, h5⟩ := ba h
    exact s_fault B h1 h2 h3 (g_pe B c _ h4) (g_pe B d _ h5)
  | .for_ i n b, t, h => by
    unfold chS at h
    split at h <;> first | (cases h; done) | skip
    obtain ⟨h1, h⟩ := ba h
    obtain ⟨h2, h⟩ := ba h
    obtain ⟨h3, h⟩ := ba h
    obtain ⟨h4, h5⟩ := ba h
    exact s_for B h1 h2 h3 (g_pe B n _ h4) (g_pss B b _ h5)
  | .fort i c b, t, h => by
    unfold chS at h
    split at h <;> first | (cases h; done) | skip
    obtain ⟨h1, h⟩ := ba h
    obtain ⟨h2, h3⟩ := ba h
    exact s_fort B h1 (g_pe B c _ h2) (g_pss B b _ h3)
  | .enum_ i j c b, t, h => by
    unfold chS at h
    split at h <;> first | (cases h; done) | skip
    obtain ⟨h1, h⟩ := ba h
    obtain ⟨h2, h⟩ := ba h
    obtain ⟨h3, h⟩ := ba h
    obtain ⟨h4, h5⟩ := ba h
    exact s_enum B h1 h2 h3 (g_pe B c _ h4) (g_pss B b _ h5)
  | .while_ c b, t, h => by
    unfold chS at h
    split at h <;> first | (cases h; done) | skip
    obtain ⟨h1, h⟩ := ba h
    obtain ⟨h2, h3⟩ := ba h
    exact s_while B (g_pt B c _ (nb h1) h2) (g_pss B b _ h3)
theorem g_pss (B : Bd X g N sc nm lim) : ∀ (c : FH.Sts) (ts : List Stmt), chSs N sc nm lim c ts = true → L2.PSs X ts (tSs X.K g c)
  | .nil, ts, h => by
    cases ts with
    | cons _ _ => unfold chSs at h; cases h
    | nil =>
      refine PSs.imp pss_nil fun D σ H ⟨s, m, P, S, q⟩ => ?_
      unfold exs at q
      exact q σ H P S.er (.refl S.ma.thr) S.ma
  | .cons a l, ts, h => by
    cases ts with
    | nil => unfold chSs at h; cases h
    | cons t r =>
      unfold chSs at h
      obtain ⟨h1, h2⟩ := ba h
      refine PSs.imp (pss_cons (g_ps B a _ h1) (g_pss B l _ h2)) fun D σ H ⟨s, m, P, S, q⟩ => ?_
      unfold exs at q
      refine ⟨s, m, P, S, ex_mono a (fun s1 m1 q σ1 H1 P1 er st ma => ?_) (fun v m1 h => h) q⟩
      exact ⟨s1, m1, P1, ⟨er, ma, S.st.trans st⟩, exs_mono l (fun s2 m2 h σ2 H2 P2 er2 st2 => h σ2 H2 P2 er2 (st.trans st2)) (fun v m2 h u H2 P2 st2 => h u H2 P2 (st.trans st2)) q⟩
end
end
end FHG
end
section
set_option linter.all false
set_option Elab.async false
namespace FH
/-- fraction_bits -/
def k0 : Sts := .cons (.ret (.ctup 2 (.var 0))) .nil
/-- greatest_exponent -/
def k1 : Sts := .cons (.ret (.bin .sub (.bin .shl (.int 1) (.bin .sub (.ctup 1 (.var 0)) (.int 1))) (.int 1))) .nil
/-- least_exponent -/
def k2 : Sts := .cons (.ret (.bin .sub (.int 1) (.call 1 (.cons (.var 0) .nil)))) .nil
/-- sign_of -/
def k3 : Sts := .cons (.ret (.bin .and (.bin .shr (.var 1) (.bin .sub (.ctup 0 (.var 0)) (.int 1))) (.int 1))) .nil
/-- own_bits -/
def k4 : Sts := .cons (.ret (.bin .and (.var 1) (.bin .sub (.bin .shl (.int 1) (.ctup 0 (.var 0))) (.int 1)))) .nil
/-- size_bits -/
def k5 : Sts := .cons (.ret (.bin .and (.var 1) (.bin .sub (.bin .shl (.int 1) (.bin .sub (.ctup 0 (.var 0)) (.int 1))) (.int 1)))) .nil
/-- with_sign -/
def k6 : Sts := .cons (.ret (.bin .add (.bin .shl (.var 1) (.bin .sub (.ctup 0 (.var 0)) (.int 1))) (.var 2))) .nil
/-- negated -/
def k7 : Sts := .cons (.ret (.call 6 (.cons (.var 0) (.cons (.bin .sub (.int 1) (.call 3 (.cons (.var 0) (.cons (.var 1) .nil)))) (.cons (.call 5 (.cons (.var 0) (.cons (.var 1) .nil))) .nil))))) .nil
/-- infinite_size -/
def k8 : Sts := .cons (.ret (.bin .shl (.bin .sub (.bin .shl (.int 1) (.ctup 1 (.var 0))) (.int 1)) (.ctup 2 (.var 0)))) .nil
/-- is_nan -/
def k9 : Sts := .cons (.ret (.cmp .gt (.call 5 (.cons (.var 0) (.cons (.var 1) .nil))) (.call 8 (.cons (.var 0) .nil)))) .nil
/-- is_signaling -/
def k10 : Sts := .cons (.ret (.conj (.cons (.call 9 (.cons (.var 0) (.cons (.var 1) .nil))) (.cons (.cmp .eq (.bin .and (.bin .shr (.var 1) (.bin .sub (.ctup 2 (.var 0)) (.int 1))) (.int 1)) (.int 0)) .nil)))) .nil
/-- is_infinite -/
def k11 : Sts := .cons (.ret (.cmp .eq (.call 5 (.cons (.var 0) (.cons (.var 1) .nil))) (.call 8 (.cons (.var 0) .nil)))) .nil
/-- is_zero -/
def k12 : Sts := .cons (.ret (.cmp .eq (.call 5 (.cons (.var 0) (.cons (.var 1) .nil))) (.int 0))) .nil
/-- is_subnormal -/
def k13 : Sts := .cons (.ret (.chn .lt .lt (.int 0) (.call 5 (.cons (.var 0) (.cons (.var 1) .nil))) (.bin .shl (.int 1) (.ctup 2 (.var 0))))) .nil
/-- zero -/
def k14 : Sts := .cons (.ret (.call 6 (.cons (.var 0) (.cons (.var 1) (.cons (.int 0) .nil))))) .nil
/-- infinity -/
def k15 : Sts := .cons (.ret (.call 6 (.cons (.var 0) (.cons (.var 1) (.cons (.call 8 (.cons (.var 0) .nil)) .nil))))) .nil
/-- greatest_finite -/
def k16 : Sts := .cons (.ret (.call 6 (.cons (.var 0) (.cons (.var 1) (.cons (.bin .sub (.call 8 (.cons (.var 0) .nil)) (.int 1)) .nil))))) .nil
/-- canonical_nan -/
def k17 : Sts := .cons (.ret (.bin .add (.call 8 (.cons (.var 0) .nil)) (.bin .shl (.int 1) (.bin .sub (.ctup 2 (.var 0)) (.int 1))))) .nil
/-- finite_parts -/
def k18 : Sts := .cons (.set 2 (.ctup 2 (.var 0))) (.cons (.set 3 (.call 5 (.cons (.var 0) (.cons (.var 1) .nil)))) (.cons (.set 4 (.bin .shr (.var 3) (.var 2))) (.cons (.set 5 (.bin .sub (.var 3) (.bin .shl (.var 4) (.var 2)))) (.cons (.ite (.cmp .eq (.var 4) (.int 0)) (.cons (.ret (.tup (.cons (.call 3 (.cons (.var 0) (.cons (.var 1) .nil))) (.cons (.var 5) (.cons (.bin .sub (.call 2 (.cons (.var 0) .nil)) (.var 2)) .nil))))) .nil) .nil) (.cons (.ret (.tup (.cons (.call 3 (.cons (.var 0) (.cons (.var 1) .nil))) (.cons (.bin .add (.var 5) (.bin .shl (.int 1) (.var 2))) (.cons (.bin .sub (.bin .sub (.var 4) (.call 1 (.cons (.var 0) .nil))) (.var 2)) .nil))))) .nil)))))
/-- signaling_flags -/
def k19 : Sts := .cons (.fort 2 (.var 1) (.cons (.ite (.call 10 (.cons (.var 0) (.cons (.var 2) .nil))) (.cons (.ret (.con 4)) .nil) .nil) .nil)) (.cons (.ret (.int 0)) .nil)
/-- place -/
def k20 : Sts := .cons (.ite (.cmp .eq (.call 3 (.cons (.var 0) (.cons (.var 1) .nil))) (.int 1)) (.cons (.ret (.neg (.call 5 (.cons (.var 0) (.cons (.var 1) .nil))))) .nil) .nil) (.cons (.ret (.call 5 (.cons (.var 0) (.cons (.var 1) .nil)))) .nil)
/-- goes_first -/
def k21 : Sts := .cons (.ite (.conj (.cons (.call 12 (.cons (.var 0) (.cons (.var 1) .nil))) (.cons (.call 12 (.cons (.var 0) (.cons (.var 2) .nil))) .nil))) (.cons (.ret (.cmp .eq (.call 3 (.cons (.var 0) (.cons (.var 1) .nil))) (.int 1))) .nil) .nil) (.cons (.ret (.cmp .le (.call 20 (.cons (.var 0) (.cons (.var 1) .nil))) (.call 20 (.cons (.var 0) (.cons (.var 2) .nil))))) .nil)
/-- chosen -/
def k22 : Sts := .cons (.ite (.conj (.cons (.call 9 (.cons (.var 0) (.cons (.var 2) .nil))) (.cons (.call 9 (.cons (.var 0) (.cons (.var 3) .nil))) .nil))) (.cons (.ret (.call 17 (.cons (.var 0) .nil))) .nil) .nil) (.cons (.ite (.call 9 (.cons (.var 0) (.cons (.var 2) .nil))) (.cons (.ret (.var 3)) .nil) .nil) (.cons (.ite (.call 9 (.cons (.var 0) (.cons (.var 3) .nil))) (.cons (.ret (.var 2)) .nil) .nil) (.cons (.ite (.cmp .eq (.call 21 (.cons (.var 0) (.cons (.var 2) (.cons (.var 3) .nil)))) (.var 1)) (.cons (.ret (.var 3)) .nil) .nil) (.cons (.ret (.var 2)) .nil))))
/-- choose -/
def k23 : Sts := .cons (.ret (.tup (.cons (.call 4 (.cons (.var 0) (.cons (.call 22 (.cons (.var 0) (.cons (.var 1) (.cons (.var 2) (.cons (.var 3) .nil))))) .nil))) (.cons (.call 19 (.cons (.var 0) (.cons (.tup (.cons (.var 2) (.cons (.var 3) .nil))) .nil))) .nil)))) .nil
/-- give_sign -/
def k24 : Sts := .cons (.set 4 (.call 3 (.cons (.var 0) (.cons (.var 3) .nil)))) (.cons (.ite (.cmp .eq (.var 1) (.int 12)) (.cons (.set 4 (.bin .sub (.int 1) (.var 4))) .nil) .nil) (.cons (.ite (.cmp .eq (.var 1) (.int 13)) (.cons (.set 4 (.bin .xor (.call 3 (.cons (.var 0) (.cons (.var 2) .nil))) (.var 4))) .nil) .nil) (.cons (.ret (.tup (.cons (.call 6 (.cons (.var 0) (.cons (.var 4) (.cons (.call 5 (.cons (.var 0) (.cons (.var 2) .nil))) .nil)))) (.cons (.int 0) .nil)))) .nil)))
/-- compare_nans -/
def k25 : Sts := .cons (.ite (.disj (.cons (.cmp .eq (.var 1) (.con 6)) (.cons (.cmp .eq (.var 1) (.con 7)) .nil))) (.cons (.ret (.tup (.cons (.int 0) (.cons (.con 4) .nil)))) .nil) .nil) (.cons (.ret (.tup (.cons (.int 0) (.cons (.call 19 (.cons (.var 0) (.cons (.tup (.cons (.var 2) (.cons (.var 3) .nil))) .nil))) .nil)))) .nil)
/-- holds -/
def k26 : Sts := .cons (.ite (.cmp .eq (.var 1) (.con 5)) (.cons (.ret (.cmp .eq (.call 20 (.cons (.var 0) (.cons (.var 2) .nil))) (.call 20 (.cons (.var 0) (.cons (.var 3) .nil))))) .nil) .nil) (.cons (.ite (.disj (.cons (.cmp .eq (.var 1) (.con 6)) (.cons (.cmp .eq (.var 1) (.con 8)) .nil))) (.cons (.ret (.cmp .lt (.call 20 (.cons (.var 0) (.cons (.var 2) .nil))) (.call 20 (.cons (.var 0) (.cons (.var 3) .nil))))) .nil) .nil) (.cons (.ret (.cmp .le (.call 20 (.cons (.var 0) (.cons (.var 2) .nil))) (.call 20 (.cons (.var 0) (.cons (.var 3) .nil))))) .nil))
/-- compare -/
def k27 : Sts := .cons (.ite (.disj (.cons (.call 9 (.cons (.var 0) (.cons (.var 2) .nil))) (.cons (.call 9 (.cons (.var 0) (.cons (.var 3) .nil))) .nil))) (.cons (.ret (.call 25 (.cons (.var 0) (.cons (.var 1) (.cons (.var 2) (.cons (.var 3) .nil)))))) .nil) .nil) (.cons (.ret (.tup (.cons (.ite (.call 26 (.cons (.var 0) (.cons (.var 1) (.cons (.var 2) (.cons (.var 3) .nil))))) (.int 1) (.int 0)) (.cons (.int 0) .nil)))) .nil)
/-- class_below -/
def k28 : Sts := .cons (.ite (.call 11 (.cons (.var 0) (.cons (.var 1) .nil))) (.cons (.ret (.int 0)) .nil) .nil) (.cons (.ite (.call 12 (.cons (.var 0) (.cons (.var 1) .nil))) (.cons (.ret (.int 3)) .nil) .nil) (.cons (.ret (.ite (.call 13 (.cons (.var 0) (.cons (.var 1) .nil))) (.int 2) (.int 1))) .nil))
/-- class_of -/
def k29 : Sts := .cons (.ite (.call 9 (.cons (.var 0) (.cons (.var 1) .nil))) (.cons (.ret (.bin .shl (.int 1) (.ite (.call 10 (.cons (.var 0) (.cons (.var 1) .nil))) (.int 8) (.int 9)))) .nil) .nil) (.cons (.ite (.cmp .eq (.call 3 (.cons (.var 0) (.cons (.var 1) .nil))) (.int 1)) (.cons (.ret (.bin .shl (.int 1) (.call 28 (.cons (.var 0) (.cons (.var 1) .nil))))) .nil) .nil) (.cons (.ret (.bin .shl (.int 1) (.bin .sub (.int 7) (.call 28 (.cons (.var 0) (.cons (.var 1) .nil)))))) .nil))
/-- grows -/
def k30 : Sts := .cons (.ite (.cmp .eq (.var 0) (.con 9)) (.cons (.ret (.bl false)) .nil) .nil) (.cons (.ite (.cmp .eq (.var 0) (.con 10)) (.cons (.ret (.cmp .eq (.var 1) (.int 1))) .nil) .nil) (.cons (.ite (.cmp .eq (.var 0) (.con 11)) (.cons (.ret (.cmp .eq (.var 1) (.int 0))) .nil) .nil) (.cons (.ite (.cmp .eq (.var 3) (.var 4)) (.cons (.ret (.disj (.cons (.cmp .eq (.var 0) (.con 12)) (.cons (.cmp .eq (.bin .mod (.var 2) (.int 2)) (.int 1)) .nil)))) .nil) .nil) (.cons (.ret (.cmp .gt (.var 3) (.var 4))) .nil))))
/-- cut -/
def k31 : Sts := .cons (.ite (.cmp .le (.var 3) (.int 0)) (.cons (.ret (.bin .shl (.var 2) (.neg (.var 3)))) .nil) .nil) (.cons (.set 4 (.bin .shr (.var 2) (.var 3))) (.cons (.set 5 (.bin .sub (.var 2) (.bin .shl (.var 4) (.var 3)))) (.cons (.ite (.conj (.cons (.cmp .ne (.var 5) (.int 0)) (.cons (.call 30 (.cons (.var 0) (.cons (.var 1) (.cons (.var 4) (.cons (.var 5) (.cons (.bin .shl (.int 1) (.bin .sub (.var 3) (.int 1))) .nil)))))) .nil))) (.cons (.ret (.bin .add (.var 4) (.int 1))) .nil) .nil) (.cons (.ret (.var 4)) .nil))))
/-- is_cut_exactly -/
def k32 : Sts := .cons (.ret (.disj (.cons (.cmp .le (.var 1) (.int 0)) (.cons (.cmp .eq (.bin .shl (.bin .shr (.var 0) (.var 1)) (.var 1)) (.var 0)) .nil)))) .nil
/-- is_tiny -/
def k33 : Sts := .cons (.set 5 (.bin .sub (.bin .add (.bin .sub (.bits (.var 3)) (.int 1)) (.var 4)) (.call 0 (.cons (.var 0) .nil)))) (.cons (.ret (.cmp .le (.bin .add (.bits (.call 31 (.cons (.var 1) (.cons (.var 2) (.cons (.var 3) (.cons (.bin .sub (.var 5) (.var 4)) .nil)))))) (.var 5)) (.call 2 (.cons (.var 0) .nil)))) .nil)
/-- overflowed -/
def k34 : Sts := .cons (.set 3 (.disj (.cons (.cmp .eq (.var 1) (.con 9)) (.cons (.conj (.cons (.cmp .eq (.var 1) (.con 10)) (.cons (.cmp .eq (.var 2) (.int 0)) .nil))) (.cons (.conj (.cons (.cmp .eq (.var 1) (.con 11)) (.cons (.cmp .eq (.var 2) (.int 1)) .nil))) .nil))))) (.cons (.ite (.var 3) (.cons (.ret (.tup (.cons (.call 16 (.cons (.var 0) (.cons (.var 2) .nil))) (.cons (.bin .or (.con 2) (.con 0)) .nil)))) .nil) .nil) (.cons (.ret (.tup (.cons (.call 15 (.cons (.var 0) (.cons (.var 2) .nil))) (.cons (.bin .or (.con 2) (.con 0)) .nil)))) .nil))
/-- rounded -/
def k35 : Sts := .cons (.set 5 (.call 0 (.cons (.var 0) .nil))) (.cons (.set 6 (.bin .sub (.call 2 (.cons (.var 0) .nil)) (.var 5))) (.cons (.set 7 (.max2 (.bin .sub (.bin .add (.bin .sub (.bits (.var 3)) (.int 1)) (.var 4)) (.var 5)) (.var 6))) (.cons (.set 8 (.call 31 (.cons (.var 1) (.cons (.var 2) (.cons (.var 3) (.cons (.bin .sub (.var 7) (.var 4)) .nil)))))) (.cons (.ite (.cmp .gt (.bin .add (.bits (.var 8)) (.var 7)) (.bin .add (.call 1 (.cons (.var 0) .nil)) (.int 1))) (.cons (.ret (.call 34 (.cons (.var 0) (.cons (.var 1) (.cons (.var 2) .nil))))) .nil) .nil) (.cons (.set 9 (.call 6 (.cons (.var 0) (.cons (.var 2) (.cons (.bin .add (.bin .shl (.bin .sub (.var 7) (.var 6)) (.var 5)) (.var 8)) .nil))))) (.cons (.ite (.call 32 (.cons (.var 3) (.cons (.bin .sub (.var 7) (.var 4)) .nil))) (.cons (.ret (.tup (.cons (.var 9) (.cons (.int 0) .nil)))) .nil) .nil) (.cons (.ite (.call 33 (.cons (.var 0) (.cons (.var 1) (.cons (.var 2) (.cons (.var 3) (.cons (.var 4) .nil)))))) (.cons (.ret (.tup (.cons (.var 9) (.cons (.bin .or (.con 1) (.con 0)) .nil)))) .nil) .nil) (.cons (.ret (.tup (.cons (.var 9) (.cons (.con 0) .nil)))) .nil))))))))
/-- invalid -/
def k36 : Sts := .cons (.ret (.tup (.cons (.call 17 (.cons (.var 0) .nil)) (.cons (.con 4) .nil)))) .nil
/-- answer_of_nans -/
def k37 : Sts := .cons (.ret (.tup (.cons (.call 17 (.cons (.var 0) .nil)) (.cons (.call 19 (.cons (.var 0) (.cons (.var 1) .nil))) .nil)))) .nil
/-- rounded_sum -/
def k38 : Sts := .cons (.unpack [4, 5, 6] (.var 2)) (.cons (.unpack [7, 8, 9] (.var 3)) (.cons (.ite (.conj (.cons (.cmp .eq (.var 5) (.int 0)) (.cons (.cmp .eq (.var 8) (.int 0)) (.cons (.cmp .eq (.var 4) (.var 7)) .nil)))) (.cons (.ret (.tup (.cons (.call 14 (.cons (.var 0) (.cons (.var 4) .nil))) (.cons (.int 0) .nil)))) .nil) .nil) (.cons (.set 10 (.min2 (.var 6) (.var 9))) (.cons (.set 11 (.bin .add (.bin .mul (.bin .sub (.int 1) (.bin .mul (.int 2) (.var 4))) (.bin .shl (.var 5) (.bin .sub (.var 6) (.var 10)))) (.bin .mul (.bin .sub (.int 1) (.bin .mul (.int 2) (.var 7))) (.bin .shl (.var 8) (.bin .sub (.var 9) (.var 10)))))) (.cons (.ite (.cmp .eq (.var 11) (.int 0)) (.cons (.ret (.tup (.cons (.call 14 (.cons (.var 0) (.cons (.ite (.cmp .eq (.var 1) (.con 10)) (.int 1) (.int 0)) .nil))) (.cons (.int 0) .nil)))) .nil) .nil) (.cons (.ret (.call 35 (.cons (.var 0) (.cons (.var 1) (.cons (.ite (.cmp .lt (.var 11) (.int 0)) (.int 1) (.int 0)) (.cons (.abs (.var 11)) (.cons (.var 10) .nil))))))) .nil))))))
/-- add -/
def k39 : Sts := .cons (.ite (.disj (.cons (.call 9 (.cons (.var 0) (.cons (.var 2) .nil))) (.cons (.call 9 (.cons (.var 0) (.cons (.var 3) .nil))) .nil))) (.cons (.ret (.call 37 (.cons (.var 0) (.cons (.tup (.cons (.var 2) (.cons (.var 3) .nil))) .nil)))) .nil) .nil) (.cons (.ite (.call 11 (.cons (.var 0) (.cons (.var 2) .nil))) (.cons (.ite (.conj (.cons (.call 11 (.cons (.var 0) (.cons (.var 3) .nil))) (.cons (.cmp .ne (.call 3 (.cons (.var 0) (.cons (.var 2) .nil))) (.call 3 (.cons (.var 0) (.cons (.var 3) .nil)))) .nil))) (.cons (.ret (.call 36 (.cons (.var 0) .nil))) .nil) .nil) (.cons (.ret (.tup (.cons (.call 15 (.cons (.var 0) (.cons (.call 3 (.cons (.var 0) (.cons (.var 2) .nil))) .nil))) (.cons (.int 0) .nil)))) .nil)) .nil) (.cons (.ite (.call 11 (.cons (.var 0) (.cons (.var 3) .nil))) (.cons (.ret (.tup (.cons (.call 15 (.cons (.var 0) (.cons (.call 3 (.cons (.var 0) (.cons (.var 3) .nil))) .nil))) (.cons (.int 0) .nil)))) .nil) .nil) (.cons (.ret (.call 38 (.cons (.var 0) (.cons (.var 1) (.cons (.call 18 (.cons (.var 0) (.cons (.var 2) .nil))) (.cons (.call 18 (.cons (.var 0) (.cons (.var 3) .nil))) .nil)))))) .nil)))
/-- subtract -/
def k40 : Sts := .cons (.ret (.call 39 (.cons (.var 0) (.cons (.var 1) (.cons (.var 2) (.cons (.call 7 (.cons (.var 0) (.cons (.var 3) .nil))) .nil)))))) .nil
/-- is_infinity_times_zero -/
def k41 : Sts := .cons (.ite (.call 11 (.cons (.var 0) (.cons (.var 1) .nil))) (.cons (.ret (.call 12 (.cons (.var 0) (.cons (.var 2) .nil)))) .nil) .nil) (.cons (.ret (.conj (.cons (.call 12 (.cons (.var 0) (.cons (.var 1) .nil))) (.cons (.call 11 (.cons (.var 0) (.cons (.var 2) .nil))) .nil)))) .nil)
/-- product_parts -/
def k42 : Sts := .cons (.unpack [3, 4, 5] (.call 18 (.cons (.var 0) (.cons (.var 1) .nil)))) (.cons (.unpack [6, 7, 8] (.call 18 (.cons (.var 0) (.cons (.var 2) .nil)))) (.cons (.ret (.tup (.cons (.bin .xor (.var 3) (.var 6)) (.cons (.bin .mul (.var 4) (.var 7)) (.cons (.bin .add (.var 5) (.var 8)) .nil))))) .nil))
/-- multiply -/
def k43 : Sts := .cons (.ite (.disj (.cons (.call 9 (.cons (.var 0) (.cons (.var 2) .nil))) (.cons (.call 9 (.cons (.var 0) (.cons (.var 3) .nil))) .nil))) (.cons (.ret (.call 37 (.cons (.var 0) (.cons (.tup (.cons (.var 2) (.cons (.var 3) .nil))) .nil)))) .nil) .nil) (.cons (.ite (.call 41 (.cons (.var 0) (.cons (.var 2) (.cons (.var 3) .nil)))) (.cons (.ret (.call 36 (.cons (.var 0) .nil))) .nil) .nil) (.cons (.set 4 (.bin .xor (.call 3 (.cons (.var 0) (.cons (.var 2) .nil))) (.call 3 (.cons (.var 0) (.cons (.var 3) .nil))))) (.cons (.ite (.disj (.cons (.call 11 (.cons (.var 0) (.cons (.var 2) .nil))) (.cons (.call 11 (.cons (.var 0) (.cons (.var 3) .nil))) .nil))) (.cons (.ret (.tup (.cons (.call 15 (.cons (.var 0) (.cons (.var 4) .nil))) (.cons (.int 0) .nil)))) .nil) .nil) (.cons (.ite (.disj (.cons (.call 12 (.cons (.var 0) (.cons (.var 2) .nil))) (.cons (.call 12 (.cons (.var 0) (.cons (.var 3) .nil))) .nil))) (.cons (.ret (.tup (.cons (.call 14 (.cons (.var 0) (.cons (.var 4) .nil))) (.cons (.int 0) .nil)))) .nil) .nil) (.cons (.unpack [5, 6] (.from_ (.call 42 (.cons (.var 0) (.cons (.var 2) (.cons (.var 3) .nil)))) 1)) (.cons (.ret (.call 35 (.cons (.var 0) (.cons (.var 1) (.cons (.var 4) (.cons (.var 5) (.cons (.var 6) .nil))))))) .nil))))))
/-- enough_bits -/
def k44 : Sts := .cons (.ret (.bin .add (.call 0 (.cons (.var 0) .nil)) (.int 2))) .nil
/-- marked -/
def k45 : Sts := .cons (.ite (.var 1) (.cons (.ret (.bin .mul (.int 2) (.var 0))) .nil) .nil) (.cons (.ret (.bin .add (.bin .mul (.int 2) (.var 0)) (.int 1))) .nil)
/-- rounded_quotient -/
def k46 : Sts := .cons (.unpack [5, 6] (.var 3)) (.cons (.unpack [7, 8] (.var 4)) (.cons (.set 9 (.max2 (.int 0) (.bin .sub (.bin .add (.call 44 (.cons (.var 0) .nil)) (.bits (.var 7))) (.bits (.var 5))))) (.cons (.unpack [10, 11] (.dvm (.bin .shl (.var 5) (.var 9)) (.var 7))) (.cons (.ret (.call 35 (.cons (.var 0) (.cons (.var 1) (.cons (.var 2) (.cons (.call 45 (.cons (.var 10) (.cons (.cmp .eq (.var 11) (.int 0)) .nil))) (.cons (.bin .sub (.bin .sub (.bin .sub (.var 6) (.var 8)) (.var 9)) (.int 1)) .nil))))))) .nil))))
/-- divide -/
def k47 : Sts := .cons (.ite (.disj (.cons (.call 9 (.cons (.var 0) (.cons (.var 2) .nil))) (.cons (.call 9 (.cons (.var 0) (.cons (.var 3) .nil))) .nil))) (.cons (.ret (.call 37 (.cons (.var 0) (.cons (.tup (.cons (.var 2) (.cons (.var 3) .nil))) .nil)))) .nil) .nil) (.cons (.set 4 (.bin .xor (.call 3 (.cons (.var 0) (.cons (.var 2) .nil))) (.call 3 (.cons (.var 0) (.cons (.var 3) .nil))))) (.cons (.ite (.call 11 (.cons (.var 0) (.cons (.var 2) .nil))) (.cons (.ite (.call 11 (.cons (.var 0) (.cons (.var 3) .nil))) (.cons (.ret (.call 36 (.cons (.var 0) .nil))) .nil) .nil) (.cons (.ret (.tup (.cons (.call 15 (.cons (.var 0) (.cons (.var 4) .nil))) (.cons (.int 0) .nil)))) .nil)) .nil) (.cons (.ite (.call 12 (.cons (.var 0) (.cons (.var 3) .nil))) (.cons (.ite (.call 12 (.cons (.var 0) (.cons (.var 2) .nil))) (.cons (.ret (.call 36 (.cons (.var 0) .nil))) .nil) .nil) (.cons (.ret (.tup (.cons (.call 15 (.cons (.var 0) (.cons (.var 4) .nil))) (.cons (.con 3) .nil)))) .nil)) .nil) (.cons (.ite (.disj (.cons (.call 11 (.cons (.var 0) (.cons (.var 3) .nil))) (.cons (.call 12 (.cons (.var 0) (.cons (.var 2) .nil))) .nil))) (.cons (.ret (.tup (.cons (.call 14 (.cons (.var 0) (.cons (.var 4) .nil))) (.cons (.int 0) .nil)))) .nil) .nil) (.cons (.ret (.call 46 (.cons (.var 0) (.cons (.var 1) (.cons (.var 4) (.cons (.from_ (.call 18 (.cons (.var 0) (.cons (.var 2) .nil))) 1) (.cons (.from_ (.call 18 (.cons (.var 0) (.cons (.var 3) .nil))) 1) .nil))))))) .nil)))))
/-- whole_root -/
def k48 : Sts := .cons (.set 1 (.bin .shl (.int 1) (.bin .fdiv (.bin .add (.bits (.var 0)) (.int 1)) (.int 2)))) (.cons (.set 2 (.bin .fdiv (.bin .add (.var 1) (.bin .fdiv (.var 0) (.var 1))) (.int 2))) (.cons (.while_ (.cmp .lt (.var 2) (.var 1)) (.cons (.set 1 (.var 2)) (.cons (.set 2 (.bin .fdiv (.bin .add (.var 1) (.bin .fdiv (.var 0) (.var 1))) (.int 2))) .nil))) (.cons (.ret (.var 1)) .nil)))
/-- rounded_root -/
def k49 : Sts := .cons (.set 4 (.max2 (.int 0) (.bin .sub (.bin .mul (.int 2) (.call 44 (.cons (.var 0) .nil))) (.bits (.var 2))))) (.cons (.set 4 (.bin .add (.var 4) (.bin .mod (.bin .sub (.var 3) (.var 4)) (.int 2)))) (.cons (.set 5 (.bin .shl (.var 2) (.var 4))) (.cons (.set 6 (.call 48 (.cons (.var 5) .nil))) (.cons (.ret (.call 35 (.cons (.var 0) (.cons (.var 1) (.cons (.int 0) (.cons (.call 45 (.cons (.var 6) (.cons (.cmp .eq (.bin .mul (.var 6) (.var 6)) (.var 5)) .nil))) (.cons (.bin .sub (.bin .fdiv (.bin .sub (.var 3) (.var 4)) (.int 2)) (.int 1)) .nil))))))) .nil))))
/-- root -/
def k50 : Sts := .cons (.ite (.call 9 (.cons (.var 0) (.cons (.var 2) .nil))) (.cons (.ret (.call 37 (.cons (.var 0) (.cons (.tup (.cons (.var 2) .nil)) .nil)))) .nil) .nil) (.cons (.unpack [3, 4, 5] (.call 18 (.cons (.var 0) (.cons (.var 2) .nil)))) (.cons (.ite (.call 12 (.cons (.var 0) (.cons (.var 2) .nil))) (.cons (.ret (.tup (.cons (.call 14 (.cons (.var 0) (.cons (.var 3) .nil))) (.cons (.int 0) .nil)))) .nil) .nil) (.cons (.ite (.cmp .eq (.var 3) (.int 1)) (.cons (.ret (.call 36 (.cons (.var 0) .nil))) .nil) .nil) (.cons (.ite (.call 11 (.cons (.var 0) (.cons (.var 2) .nil))) (.cons (.ret (.tup (.cons (.call 15 (.cons (.var 0) (.cons (.int 0) .nil))) (.cons (.int 0) .nil)))) .nil) .nil) (.cons (.ret (.call 49 (.cons (.var 0) (.cons (.var 1) (.cons (.var 4) (.cons (.var 5) .nil)))))) .nil)))))
/-- fuse -/
def k51 : Sts := .cons (.ite (.call 41 (.cons (.var 0) (.cons (.var 2) (.cons (.var 3) .nil)))) (.cons (.ret (.call 36 (.cons (.var 0) .nil))) .nil) .nil) (.cons (.ite (.disj (.cons (.call 9 (.cons (.var 0) (.cons (.var 2) .nil))) (.cons (.call 9 (.cons (.var 0) (.cons (.var 3) .nil))) (.cons (.call 9 (.cons (.var 0) (.cons (.var 4) .nil))) .nil)))) (.cons (.ret (.call 37 (.cons (.var 0) (.cons (.tup (.cons (.var 2) (.cons (.var 3) (.cons (.var 4) .nil)))) .nil)))) .nil) .nil) (.cons (.set 5 (.bin .xor (.call 3 (.cons (.var 0) (.cons (.var 2) .nil))) (.call 3 (.cons (.var 0) (.cons (.var 3) .nil))))) (.cons (.ite (.disj (.cons (.call 11 (.cons (.var 0) (.cons (.var 2) .nil))) (.cons (.call 11 (.cons (.var 0) (.cons (.var 3) .nil))) .nil))) (.cons (.ite (.conj (.cons (.call 11 (.cons (.var 0) (.cons (.var 4) .nil))) (.cons (.cmp .ne (.var 5) (.call 3 (.cons (.var 0) (.cons (.var 4) .nil)))) .nil))) (.cons (.ret (.call 36 (.cons (.var 0) .nil))) .nil) .nil) (.cons (.ret (.tup (.cons (.call 15 (.cons (.var 0) (.cons (.var 5) .nil))) (.cons (.int 0) .nil)))) .nil)) .nil) (.cons (.ite (.call 11 (.cons (.var 0) (.cons (.var 4) .nil))) (.cons (.ret (.tup (.cons (.call 15 (.cons (.var 0) (.cons (.call 3 (.cons (.var 0) (.cons (.var 4) .nil))) .nil))) (.cons (.int 0) .nil)))) .nil) .nil) (.cons (.ret (.call 38 (.cons (.var 0) (.cons (.var 1) (.cons (.call 42 (.cons (.var 0) (.cons (.var 2) (.cons (.var 3) .nil)))) (.cons (.call 18 (.cons (.var 0) (.cons (.var 4) .nil))) .nil)))))) .nil)))))
/-- fuse_turned -/
def k52 : Sts := .cons (.set 6 (.ite (.cmp .ge (.var 1) (.int 7)) (.call 7 (.cons (.var 0) (.cons (.var 3) .nil))) (.var 3))) (.cons (.set 7 (.ite (.cmp .eq (.bin .mod (.var 1) (.int 2)) (.int 0)) (.call 7 (.cons (.var 0) (.cons (.var 5) .nil))) (.var 5))) (.cons (.ret (.call 51 (.cons (.var 0) (.cons (.var 2) (.cons (.var 6) (.cons (.var 4) (.cons (.var 7) .nil))))))) .nil))
/-- wrapped -/
def k53 : Sts := .cons (.ret (.bin .mod (.var 0) (.bin .pow (.int 2) (.int 64)))) .nil
/-- signed -/
def k54 : Sts := .cons (.set 2 (.bin .shl (.int 1) (.bin .sub (.var 1) (.int 1)))) (.cons (.ret (.bin .sub (.bin .xor (.bin .and (.var 0) (.bin .sub (.bin .mul (.int 2) (.var 2)) (.int 1))) (.var 2)) (.var 2))) .nil)
/-- convert -/
def k55 : Sts := .cons (.ite (.call 9 (.cons (.var 0) (.cons (.var 3) .nil))) (.cons (.ret (.tup (.cons (.call 17 (.cons (.var 1) .nil)) (.cons (.call 19 (.cons (.var 0) (.cons (.tup (.cons (.var 3) .nil)) .nil))) .nil)))) .nil) .nil) (.cons (.ite (.call 11 (.cons (.var 0) (.cons (.var 3) .nil))) (.cons (.ret (.tup (.cons (.call 15 (.cons (.var 1) (.cons (.call 3 (.cons (.var 0) (.cons (.var 3) .nil))) .nil))) (.cons (.int 0) .nil)))) .nil) .nil) (.cons (.ite (.call 12 (.cons (.var 0) (.cons (.var 3) .nil))) (.cons (.ret (.tup (.cons (.call 14 (.cons (.var 1) (.cons (.call 3 (.cons (.var 0) (.cons (.var 3) .nil))) .nil))) (.cons (.int 0) .nil)))) .nil) .nil) (.cons (.unpack [4, 5, 6] (.call 18 (.cons (.var 0) (.cons (.var 3) .nil)))) (.cons (.ret (.call 35 (.cons (.var 1) (.cons (.var 2) (.cons (.var 4) (.cons (.var 5) (.cons (.var 6) .nil))))))) .nil))))
/-- round_within -/
def k56 : Sts := .cons (.ite (.call 9 (.cons (.var 0) (.cons (.var 2) .nil))) (.cons (.ret (.call 37 (.cons (.var 0) (.cons (.tup (.cons (.var 2) .nil)) .nil)))) .nil) .nil) (.cons (.ite (.call 11 (.cons (.var 0) (.cons (.var 2) .nil))) (.cons (.ret (.tup (.cons (.call 15 (.cons (.var 0) (.cons (.call 3 (.cons (.var 0) (.cons (.var 2) .nil))) .nil))) (.cons (.int 0) .nil)))) .nil) .nil) (.cons (.unpack [3, 4, 5] (.call 18 (.cons (.var 0) (.cons (.var 2) .nil)))) (.cons (.set 6 (.ite (.call 32 (.cons (.var 4) (.cons (.neg (.var 5)) .nil))) (.int 0) (.con 0))) (.cons (.set 7 (.call 31 (.cons (.var 1) (.cons (.var 3) (.cons (.var 4) (.cons (.neg (.var 5)) .nil)))))) (.cons (.ite (.cmp .eq (.var 7) (.int 0)) (.cons (.ret (.tup (.cons (.call 14 (.cons (.var 0) (.cons (.var 3) .nil))) (.cons (.var 6) .nil)))) .nil) .nil) (.cons (.ret (.tup (.cons (.at_ (.call 35 (.cons (.var 0) (.cons (.var 1) (.cons (.var 3) (.cons (.var 7) (.cons (.int 0) .nil)))))) (.int 0)) (.cons (.var 6) .nil)))) .nil))))))
/-- round_within_silently -/
def k57 : Sts := .cons (.unpack [3, 4] (.call 56 (.cons (.var 0) (.cons (.var 1) (.cons (.var 2) .nil))))) (.cons (.ret (.tup (.cons (.var 3) (.cons (.bin .and (.var 4) (.con 4)) .nil)))) .nil)
/-- bits_of_sort -/
def k58 : Sts := .cons (.ret (.bin .shl (.int 8) (.bin .fdiv (.var 0) (.int 2)))) .nil
/-- has_sign -/
def k59 : Sts := .cons (.ret (.cmp .eq (.bin .mod (.var 0) (.int 2)) (.int 0))) .nil
/-- least_of_sort -/
def k60 : Sts := .cons (.ite (.call 59 (.cons (.var 0) .nil)) (.cons (.ret (.neg (.bin .shl (.int 1) (.bin .sub (.call 58 (.cons (.var 0) .nil)) (.int 1))))) .nil) .nil) (.cons (.ret (.int 0)) .nil)
/-- greatest_of_sort -/
def k61 : Sts := .cons (.ret (.bin .sub (.bin .add (.call 60 (.cons (.var 0) .nil)) (.bin .shl (.int 1) (.call 58 (.cons (.var 0) .nil)))) (.int 1))) .nil
/-- beyond_sort -/
def k62 : Sts := .cons (.ite (.var 1) (.cons (.ret (.tup (.cons (.call 53 (.cons (.call 60 (.cons (.var 0) .nil)) .nil)) (.cons (.con 4) .nil)))) .nil) .nil) (.cons (.ret (.tup (.cons (.call 53 (.cons (.call 61 (.cons (.var 0) .nil)) .nil)) (.cons (.con 4) .nil)))) .nil)
/-- to_whole -/
def k63 : Sts := .cons (.ite (.call 9 (.cons (.var 0) (.cons (.var 3) .nil))) (.cons (.ret (.call 62 (.cons (.var 1) (.cons (.bl false) .nil)))) .nil) .nil) (.cons (.unpack [4, 5, 6] (.call 18 (.cons (.var 0) (.cons (.var 3) .nil)))) (.cons (.ite (.call 11 (.cons (.var 0) (.cons (.var 3) .nil))) (.cons (.ret (.call 62 (.cons (.var 1) (.cons (.cmp .eq (.var 4) (.int 1)) .nil)))) .nil) .nil) (.cons (.set 7 (.call 31 (.cons (.var 2) (.cons (.var 4) (.cons (.var 5) (.cons (.neg (.var 6)) .nil)))))) (.cons (.set 8 (.ite (.cmp .eq (.var 4) (.int 1)) (.neg (.var 7)) (.var 7))) (.cons (.ite (.disj (.cons (.cmp .lt (.var 8) (.call 60 (.cons (.var 1) .nil))) (.cons (.cmp .gt (.var 8) (.call 61 (.cons (.var 1) .nil))) .nil))) (.cons (.ret (.call 62 (.cons (.var 1) (.cons (.cmp .lt (.var 8) (.int 0)) .nil)))) .nil) .nil) (.cons (.ret (.tup (.cons (.call 53 (.cons (.var 8) .nil)) (.cons (.ite (.call 32 (.cons (.var 5) (.cons (.neg (.var 6)) .nil))) (.int 0) (.con 0)) .nil)))) .nil))))))
/-- number_of_sort -/
def k64 : Sts := .cons (.ite (.call 59 (.cons (.var 0) .nil)) (.cons (.ret (.call 54 (.cons (.var 1) (.cons (.call 58 (.cons (.var 0) .nil)) .nil)))) .nil) .nil) (.cons (.ret (.bin .mod (.var 1) (.bin .shl (.int 1) (.call 58 (.cons (.var 0) .nil))))) .nil)
/-- from_whole -/
def k65 : Sts := .cons (.set 4 (.call 64 (.cons (.var 1) (.cons (.var 3) .nil)))) (.cons (.ite (.cmp .eq (.var 4) (.int 0)) (.cons (.ret (.tup (.cons (.call 14 (.cons (.var 0) (.cons (.int 0) .nil))) (.cons (.int 0) .nil)))) .nil) .nil) (.cons (.ret (.call 35 (.cons (.var 0) (.cons (.var 2) (.cons (.ite (.cmp .lt (.var 4) (.int 0)) (.int 1) (.int 0)) (.cons (.abs (.var 4)) (.cons (.int 0) .nil))))))) .nil))
/-- Machine.put_x -/
def k67 : Sts := .cons (.ite (.cmp .ne (.var 1) (.int 0)) (.cons (.setP .x (.var 0) (.var 1) (.call 53 (.cons (.var 2) .nil))) .nil) .nil) .nil
/-- Machine.operand -/
def k68 : Sts := .cons (.set 3 (.part .f (.var 0) (.var 2))) (.cons (.ite (.cmp .lt (.var 3) (.ctup 3 (.var 1))) (.cons (.ret (.call 17 (.cons (.var 1) .nil))) .nil) .nil) (.cons (.ret (.call 4 (.cons (.var 1) (.cons (.var 3) .nil)))) .nil))
/-- Machine.put_f -/
def k69 : Sts := .cons (.setP .f (.var 0) (.var 2) (.bin .or (.ctup 3 (.var 1)) (.var 3))) .nil
/-- Machine.raise_flags -/
def k70 : Sts := .cons (.setF .fflags (.var 0) (.bin .or (.fld .fflags (.var 0)) (.var 1))) .nil
/-- Machine.load -/
def k71 : Sts := .cons (.set 3 (.int 0)) (.cons (.for_ 4 (.var 2) (.cons (.set 3 (.bin .add (.var 3) (.bin .shl (.part .mem (.var 0) (.bin .add (.var 1) (.var 4))) (.bin .mul (.int 8) (.var 4))))) .nil)) (.cons (.ret (.var 3)) .nil))
/-- Machine.store -/
def k72 : Sts := .cons (.for_ 4 (.var 2) (.cons (.setP .mem (.var 0) (.bin .add (.var 1) (.var 4)) (.bin .and (.bin .shr (.var 3) (.bin .mul (.int 8) (.var 4))) (.int 255))) .nil)) .nil
/-- require -/
def k73 : Sts := .cons (.ite (.not (.var 0)) (.cons (.fault (.con 16) (.var 1)) .nil) .nil) .nil
/-- opcode_of -/
def k74 : Sts := .cons (.ret (.bin .and (.var 0) (.int 127))) .nil
/-- rd_of -/
def k75 : Sts := .cons (.ret (.bin .and (.bin .shr (.var 0) (.int 7)) (.int 31))) .nil
/-- f3_of -/
def k76 : Sts := .cons (.ret (.bin .and (.bin .shr (.var 0) (.int 12)) (.int 7))) .nil
/-- rs1_of -/
def k77 : Sts := .cons (.ret (.bin .and (.bin .shr (.var 0) (.int 15)) (.int 31))) .nil
/-- rs2_of -/
def k78 : Sts := .cons (.ret (.bin .and (.bin .shr (.var 0) (.int 20)) (.int 31))) .nil
/-- fm_of -/
def k79 : Sts := .cons (.ret (.bin .and (.bin .shr (.var 0) (.int 25)) (.int 3))) .nil
/-- f7_of -/
def k80 : Sts := .cons (.ret (.bin .shr (.var 0) (.int 25))) .nil
/-- f5_of -/
def k81 : Sts := .cons (.ret (.bin .shr (.var 0) (.int 27))) .nil
/-- rs3_of -/
def k82 : Sts := .cons (.ret (.bin .shr (.var 0) (.int 27))) .nil
/-- control_of -/
def k83 : Sts := .cons (.ret (.bin .shr (.var 0) (.int 20))) .nil
/-- offset_i -/
def k84 : Sts := .cons (.ret (.call 54 (.cons (.bin .shr (.var 0) (.int 20)) (.cons (.int 12) .nil)))) .nil
/-- offset_s -/
def k85 : Sts := .cons (.ret (.call 54 (.cons (.bin .add (.bin .shl (.call 80 (.cons (.var 0) .nil)) (.int 5)) (.call 75 (.cons (.var 0) .nil))) (.cons (.int 12) .nil)))) .nil
/-- offset_b -/
def k86 : Sts := .cons (.set 1 (.bin .add (.bin .shl (.bin .and (.bin .shr (.var 0) (.int 25)) (.int 63)) (.int 5)) (.bin .shl (.bin .and (.bin .shr (.var 0) (.int 8)) (.int 15)) (.int 1)))) (.cons (.ret (.call 54 (.cons (.bin .add (.bin .add (.bin .shl (.bin .shr (.var 0) (.int 31)) (.int 12)) (.bin .shl (.bin .and (.bin .shr (.var 0) (.int 7)) (.int 1)) (.int 11))) (.var 1)) (.cons (.int 13) .nil)))) .nil)
/-- offset_j -/
def k87 : Sts := .cons (.set 1 (.bin .add (.bin .shl (.bin .and (.bin .shr (.var 0) (.int 20)) (.int 1)) (.int 11)) (.bin .shl (.bin .and (.bin .shr (.var 0) (.int 21)) (.int 1023)) (.int 1)))) (.cons (.ret (.call 54 (.cons (.bin .add (.bin .add (.bin .shl (.bin .shr (.var 0) (.int 31)) (.int 20)) (.bin .shl (.bin .and (.bin .shr (.var 0) (.int 12)) (.int 255)) (.int 12))) (.var 1)) (.cons (.int 21) .nil)))) .nil)
/-- control_content -/
def k88 : Sts := .cons (.ite (.cmp .eq (.var 1) (.con 19)) (.cons (.ret (.fld .fflags (.var 0))) .nil) .nil) (.cons (.ite (.cmp .eq (.var 1) (.con 20)) (.cons (.ret (.fld .frm (.var 0))) .nil) .nil) (.cons (.ret (.bin .add (.fld .fflags (.var 0)) (.bin .mul (.int 32) (.fld .frm (.var 0))))) .nil))
/-- put_control -/
def k89 : Sts := .cons (.ite (.cmp .eq (.var 1) (.con 19)) (.cons (.setF .fflags (.var 0) (.bin .and (.var 2) (.int 31))) .nil) (.cons (.ite (.cmp .eq (.var 1) (.con 20)) (.cons (.setF .frm (.var 0) (.bin .and (.var 2) (.int 7))) .nil) (.cons (.setF .fflags (.var 0) (.bin .and (.var 2) (.int 31))) (.cons (.setF .frm (.var 0) (.bin .and (.bin .shr (.var 2) (.int 5)) (.int 7))) .nil))) .nil)) .nil
/-- written -/
def k90 : Sts := .cons (.ite (.cmp .eq (.var 0) (.int 1)) (.cons (.ret (.var 2)) .nil) .nil) (.cons (.ite (.cmp .eq (.var 0) (.int 2)) (.cons (.ret (.bin .or (.var 1) (.var 2))) .nil) .nil) (.cons (.ret (.bin .and (.var 1) (.inv (.var 2)))) .nil))
/-- exchange_control -/
def k91 : Sts := .cons (.set 2 (.call 76 (.cons (.var 1) .nil))) (.cons (.set 3 (.call 83 (.cons (.var 1) .nil))) (.cons (.drop (.call 73 (.cons (.conj (.cons (.isin true (.var 2) (.cons (.int 0) (.cons (.int 4) .nil))) (.cons (.isin false (.var 3) (.cons (.con 19) (.cons (.con 20) (.cons (.con 21) .nil)))) .nil))) (.cons (.var 1) .nil)))) (.cons (.set 4 (.call 77 (.cons (.var 1) .nil))) (.cons (.set 5 (.ite (.cmp .lt (.var 2) (.int 4)) (.part .x (.var 0) (.var 4)) (.var 4))) (.cons (.set 6 (.call 88 (.cons (.var 0) (.cons (.var 3) .nil)))) (.cons (.drop (.meth 67 (.var 0) (.cons (.call 75 (.cons (.var 1) .nil)) (.cons (.var 6) .nil)))) (.cons (.ite (.disj (.cons (.cmp .eq (.bin .mod (.var 2) (.int 4)) (.int 1)) (.cons (.cmp .ne (.var 4) (.int 0)) .nil))) (.cons (.drop (.call 89 (.cons (.var 0) (.cons (.var 3) (.cons (.call 90 (.cons (.bin .mod (.var 2) (.int 4)) (.cons (.var 6) (.cons (.var 5) .nil)))) .nil))))) .nil) .nil) .nil)))))))
/-- arithmetic_answer -/
def k92 : Sts := .cons (.unpack [4, 5, 6] (.var 3)) (.cons (.ite (.cmp .eq (.var 1) (.int 0)) (.cons (.ret (.call 39 (.cons (.var 0) (.cons (.var 2) (.cons (.var 4) (.cons (.var 5) .nil)))))) .nil) .nil) (.cons (.ite (.cmp .eq (.var 1) (.int 1)) (.cons (.ret (.call 40 (.cons (.var 0) (.cons (.var 2) (.cons (.var 4) (.cons (.var 5) .nil)))))) .nil) .nil) (.cons (.ite (.cmp .eq (.var 1) (.int 2)) (.cons (.ret (.call 43 (.cons (.var 0) (.cons (.var 2) (.cons (.var 4) (.cons (.var 5) .nil)))))) .nil) .nil) (.cons (.ite (.cmp .eq (.var 1) (.int 3)) (.cons (.ret (.call 47 (.cons (.var 0) (.cons (.var 2) (.cons (.var 4) (.cons (.var 5) .nil)))))) .nil) .nil) (.cons (.ite (.cmp .eq (.var 1) (.int 4)) (.cons (.ret (.call 50 (.cons (.var 0) (.cons (.var 2) (.cons (.var 4) .nil))))) .nil) .nil) (.cons (.ret (.call 52 (.cons (.var 0) (.cons (.var 1) (.cons (.var 2) (.cons (.var 4) (.cons (.var 5) (.cons (.var 6) .nil)))))))) .nil))))))
/-- operate -/
def k93 : Sts := .cons (.unpack [4, 5, 6] (.var 3)) (.cons (.ite (.cmp .le (.var 1) (.int 8)) (.cons (.ret (.call 92 (.cons (.var 0) (.cons (.var 1) (.cons (.var 2) (.cons (.var 3) .nil)))))) .nil) .nil) (.cons (.ite (.cmp .le (.var 1) (.int 10)) (.cons (.ret (.call 23 (.cons (.var 0) (.cons (.cmp .eq (.var 1) (.int 10)) (.cons (.var 4) (.cons (.var 5) .nil)))))) .nil) .nil) (.cons (.ite (.cmp .le (.var 1) (.int 13)) (.cons (.ret (.call 24 (.cons (.var 0) (.cons (.var 1) (.cons (.var 4) (.cons (.var 5) .nil)))))) .nil) .nil) (.cons (.ite (.cmp .eq (.var 1) (.int 14)) (.cons (.ret (.call 57 (.cons (.var 0) (.cons (.var 2) (.cons (.var 4) .nil))))) .nil) .nil) (.cons (.ret (.call 56 (.cons (.var 0) (.cons (.var 2) (.cons (.var 4) .nil))))) .nil)))))
/-- form_of -/
def k94 : Sts := .cons (.set 1 (.call 79 (.cons (.var 0) .nil))) (.cons (.drop (.call 73 (.cons (.cmp .ne (.var 1) (.int 3)) (.cons (.var 0) .nil)))) (.cons (.ret (.var 1)) .nil))
/-- mode_of -/
def k95 : Sts := .cons (.set 2 (.call 76 (.cons (.var 1) .nil))) (.cons (.ite (.cmp .eq (.var 2) (.int 7)) (.cons (.set 2 (.fld .frm (.var 0))) .nil) .nil) (.cons (.drop (.call 73 (.cons (.cmp .le (.var 2) (.int 4)) (.cons (.var 1) .nil)))) (.cons (.ret (.var 2)) .nil)))
/-- put_float -/
def k96 : Sts := .cons (.unpack [3, 4] (.var 2)) (.cons (.drop (.meth 69 (.var 0) (.cons (.call 94 (.cons (.var 1) .nil)) (.cons (.call 75 (.cons (.var 1) .nil)) (.cons (.var 3) .nil))))) (.cons (.drop (.meth 70 (.var 0) (.cons (.var 4) .nil))) .nil))
/-- put_whole -/
def k97 : Sts := .cons (.unpack [3, 4] (.var 2)) (.cons (.drop (.meth 67 (.var 0) (.cons (.call 75 (.cons (.var 1) .nil)) (.cons (.var 3) .nil)))) (.cons (.drop (.meth 70 (.var 0) (.cons (.var 4) .nil))) .nil))
/-- execute_operation -/
def k99 : Sts := .cons (.set 4 (.call 94 (.cons (.var 1) .nil))) (.cons (.set 5 (.lst (.cons (.meth 68 (.var 0) (.cons (.var 4) (.cons (.call 77 (.cons (.var 1) .nil)) .nil))) (.cons (.meth 68 (.var 0) (.cons (.var 4) (.cons (.call 78 (.cons (.var 1) .nil)) .nil))) (.cons (.int 0) .nil))))) (.cons (.drop (.call 96 (.cons (.var 0) (.cons (.var 1) (.cons (.call 93 (.cons (.var 4) (.cons (.var 2) (.cons (.var 3) (.cons (.var 5) .nil))))) .nil))))) .nil))
/-- execute_chosen -/
def k100 : Sts := .cons (.drop (.call 73 (.cons (.cmp .lt (.call 76 (.cons (.var 1) .nil)) (.len (.var 2))) (.cons (.var 1) .nil)))) (.cons (.drop (.call 99 (.cons (.var 0) (.cons (.var 1) (.cons (.at_ (.var 2) (.call 76 (.cons (.var 1) .nil))) (.cons (.con 22) .nil)))))) .nil)
/-- execute_root -/
def k101 : Sts := .cons (.drop (.call 73 (.cons (.cmp .eq (.call 78 (.cons (.var 1) .nil)) (.int 0)) (.cons (.var 1) .nil)))) (.cons (.drop (.call 99 (.cons (.var 0) (.cons (.var 1) (.cons (.int 4) (.cons (.call 95 (.cons (.var 0) (.cons (.var 1) .nil))) .nil)))))) .nil)
/-- execute_conversion -/
def k102 : Sts := .cons (.set 2 (.call 94 (.cons (.var 1) .nil))) (.cons (.set 3 (.call 95 (.cons (.var 0) (.cons (.var 1) .nil)))) (.cons (.set 4 (.call 78 (.cons (.var 1) .nil))) (.cons (.ite (.isin false (.var 4) (.cons (.int 4) (.cons (.int 5) .nil))) (.cons (.drop (.call 99 (.cons (.var 0) (.cons (.var 1) (.cons (.bin .add (.int 10) (.var 4)) (.cons (.var 3) .nil)))))) .nil) (.cons (.drop (.call 73 (.cons (.conj (.cons (.cmp .le (.var 4) (.int 2)) (.cons (.cmp .ne (.var 4) (.var 2)) .nil))) (.cons (.var 1) .nil)))) (.cons (.drop (.call 96 (.cons (.var 0) (.cons (.var 1) (.cons (.call 55 (.cons (.var 4) (.cons (.var 2) (.cons (.var 3) (.cons (.meth 68 (.var 0) (.cons (.var 4) (.cons (.call 77 (.cons (.var 1) .nil)) .nil))) .nil))))) .nil))))) .nil))) .nil)))
/-- execute_comparison -/
def k103 : Sts := .cons (.set 2 (.call 94 (.cons (.var 1) .nil))) (.cons (.drop (.call 73 (.cons (.indic (.call 76 (.cons (.var 1) .nil)) 0) (.cons (.var 1) .nil)))) (.cons (.set 3 (.meth 68 (.var 0) (.cons (.var 2) (.cons (.call 77 (.cons (.var 1) .nil)) .nil)))) (.cons (.set 4 (.meth 68 (.var 0) (.cons (.var 2) (.cons (.call 78 (.cons (.var 1) .nil)) .nil)))) (.cons (.drop (.call 97 (.cons (.var 0) (.cons (.var 1) (.cons (.call 27 (.cons (.var 2) (.cons (.diget 0 (.call 76 (.cons (.var 1) .nil))) (.cons (.var 3) (.cons (.var 4) .nil))))) .nil))))) .nil))))
/-- sort_of -/
def k104 : Sts := .cons (.drop (.call 73 (.cons (.cmp .le (.call 78 (.cons (.var 0) .nil)) (.int 3)) (.cons (.var 0) .nil)))) (.cons (.ret (.bin .add (.int 4) (.call 78 (.cons (.var 0) .nil)))) .nil)
/-- execute_to_whole -/
def k105 : Sts := .cons (.set 2 (.call 94 (.cons (.var 1) .nil))) (.cons (.set 3 (.call 104 (.cons (.var 1) .nil))) (.cons (.unpack [4, 5] (.call 63 (.cons (.var 2) (.cons (.var 3) (.cons (.call 95 (.cons (.var 0) (.cons (.var 1) .nil))) (.cons (.meth 68 (.var 0) (.cons (.var 2) (.cons (.call 77 (.cons (.var 1) .nil)) .nil))) .nil)))))) (.cons (.drop (.call 97 (.cons (.var 0) (.cons (.var 1) (.cons (.tup (.cons (.ite (.cmp .le (.var 3) (.int 5)) (.call 54 (.cons (.var 4) (.cons (.int 32) .nil))) (.var 4)) (.cons (.var 5) .nil))) .nil))))) .nil)))
/-- execute_from_whole -/
def k106 : Sts := .cons (.set 2 (.call 94 (.cons (.var 1) .nil))) (.cons (.set 3 (.call 95 (.cons (.var 0) (.cons (.var 1) .nil)))) (.cons (.drop (.call 96 (.cons (.var 0) (.cons (.var 1) (.cons (.call 65 (.cons (.var 2) (.cons (.call 104 (.cons (.var 1) .nil)) (.cons (.var 3) (.cons (.part .x (.var 0) (.call 77 (.cons (.var 1) .nil))) .nil))))) .nil))))) .nil))
/-- execute_out -/
def k107 : Sts := .cons (.set 2 (.call 94 (.cons (.var 1) .nil))) (.cons (.drop (.call 73 (.cons (.conj (.cons (.cmp .eq (.call 78 (.cons (.var 1) .nil)) (.int 0)) (.cons (.cmp .le (.call 76 (.cons (.var 1) .nil)) (.int 1)) .nil))) (.cons (.var 1) .nil)))) (.cons (.ite (.cmp .eq (.call 76 (.cons (.var 1) .nil)) (.int 0)) (.cons (.set 3 (.call 54 (.cons (.part .f (.var 0) (.call 77 (.cons (.var 1) .nil))) (.cons (.ctup 0 (.var 2)) .nil)))) .nil) (.cons (.set 3 (.call 29 (.cons (.var 2) (.cons (.meth 68 (.var 0) (.cons (.var 2) (.cons (.call 77 (.cons (.var 1) .nil)) .nil))) .nil)))) .nil)) (.cons (.drop (.call 97 (.cons (.var 0) (.cons (.var 1) (.cons (.tup (.cons (.var 3) (.cons (.int 0) .nil))) .nil))))) .nil)))
/-- execute_in -/
def k108 : Sts := .cons (.set 2 (.call 94 (.cons (.var 1) .nil))) (.cons (.drop (.call 73 (.cons (.conj (.cons (.cmp .eq (.call 78 (.cons (.var 1) .nil)) (.int 0)) (.cons (.cmp .eq (.call 76 (.cons (.var 1) .nil)) (.int 0)) .nil))) (.cons (.var 1) .nil)))) (.cons (.drop (.call 96 (.cons (.var 0) (.cons (.var 1) (.cons (.tup (.cons (.call 4 (.cons (.var 2) (.cons (.part .x (.var 0) (.call 77 (.cons (.var 1) .nil))) .nil))) (.cons (.int 0) .nil))) .nil))))) .nil))
/-- execute_to_f -/
def k109 : Sts := .cons (.set 2 (.call 81 (.cons (.var 1) .nil))) (.cons (.ite (.cmp .le (.var 2) (.int 3)) (.cons (.drop (.call 99 (.cons (.var 0) (.cons (.var 1) (.cons (.var 2) (.cons (.call 95 (.cons (.var 0) (.cons (.var 1) .nil))) .nil)))))) .nil) (.cons (.ite (.cmp .eq (.var 2) (.int 4)) (.cons (.drop (.call 100 (.cons (.var 0) (.cons (.var 1) (.cons (.tup (.cons (.int 11) (.cons (.int 12) (.cons (.int 13) .nil)))) .nil))))) .nil) (.cons (.ite (.cmp .eq (.var 2) (.int 5)) (.cons (.drop (.call 100 (.cons (.var 0) (.cons (.var 1) (.cons (.tup (.cons (.int 9) (.cons (.int 10) .nil))) .nil))))) .nil) (.cons (.ite (.cmp .eq (.var 2) (.int 8)) (.cons (.drop (.call 102 (.cons (.var 0) (.cons (.var 1) .nil)))) .nil) (.cons (.ite (.cmp .eq (.var 2) (.int 11)) (.cons (.drop (.call 101 (.cons (.var 0) (.cons (.var 1) .nil)))) .nil) (.cons (.ite (.cmp .eq (.var 2) (.int 26)) (.cons (.drop (.call 106 (.cons (.var 0) (.cons (.var 1) .nil)))) .nil) (.cons (.ite (.cmp .eq (.var 2) (.int 30)) (.cons (.drop (.call 108 (.cons (.var 0) (.cons (.var 1) .nil)))) .nil) (.cons (.fault (.con 16) (.var 1)) .nil)) .nil)) .nil)) .nil)) .nil)) .nil)) .nil)) .nil)
/-- execute_float -/
def k110 : Sts := .cons (.set 2 (.call 81 (.cons (.var 1) .nil))) (.cons (.ite (.cmp .eq (.var 2) (.int 20)) (.cons (.drop (.call 103 (.cons (.var 0) (.cons (.var 1) .nil)))) .nil) (.cons (.ite (.cmp .eq (.var 2) (.int 24)) (.cons (.drop (.call 105 (.cons (.var 0) (.cons (.var 1) .nil)))) .nil) (.cons (.ite (.cmp .eq (.var 2) (.int 28)) (.cons (.drop (.call 107 (.cons (.var 0) (.cons (.var 1) .nil)))) .nil) (.cons (.drop (.call 109 (.cons (.var 0) (.cons (.var 1) .nil)))) .nil)) .nil)) .nil)) .nil)
/-- form_and_size -/
def k111 : Sts := .cons (.drop (.call 73 (.cons (.indic (.call 76 (.cons (.var 0) .nil)) 1) (.cons (.var 0) .nil)))) (.cons (.ret (.diget 1 (.call 76 (.cons (.var 0) .nil)))) .nil)
/-- address_of -/
def k112 : Sts := .cons (.set 5 (.call 53 (.cons (.bin .add (.part .x (.var 0) (.call 77 (.cons (.var 1) .nil))) (.var 2)) .nil))) (.cons (.ite (.cmp .gt (.bin .add (.var 5) (.var 3)) (.con 13)) (.cons (.fault (.var 4) (.var 5)) .nil) .nil) (.cons (.ret (.var 5)) .nil))
/-- load_float -/
def k113 : Sts := .cons (.unpack [2, 3] (.call 111 (.cons (.var 1) .nil))) (.cons (.set 4 (.call 112 (.cons (.var 0) (.cons (.var 1) (.cons (.call 84 (.cons (.var 1) .nil)) (.cons (.var 3) (.cons (.con 17) .nil))))))) (.cons (.drop (.meth 69 (.var 0) (.cons (.var 2) (.cons (.call 75 (.cons (.var 1) .nil)) (.cons (.meth 71 (.var 0) (.cons (.var 4) (.cons (.var 3) .nil))) .nil))))) .nil))
/-- store_float -/
def k114 : Sts := .cons (.set 2 (.at_ (.call 111 (.cons (.var 1) .nil)) (.int 1))) (.cons (.set 3 (.call 112 (.cons (.var 0) (.cons (.var 1) (.cons (.call 85 (.cons (.var 1) .nil)) (.cons (.var 2) (.cons (.con 18) .nil))))))) (.cons (.drop (.meth 72 (.var 0) (.cons (.var 3) (.cons (.var 2) (.cons (.part .f (.var 0) (.call 78 (.cons (.var 1) .nil))) .nil))))) .nil))
/-- put_upper -/
def k115 : Sts := .cons (.drop (.meth 67 (.var 0) (.cons (.call 75 (.cons (.var 1) .nil)) (.cons (.call 54 (.cons (.bin .and (.var 1) (.int 4294963200)) (.cons (.int 32) .nil))) .nil)))) .nil
/-- add_offset -/
def k116 : Sts := .cons (.drop (.call 73 (.cons (.cmp .eq (.call 76 (.cons (.var 1) .nil)) (.int 0)) (.cons (.var 1) .nil)))) (.cons (.drop (.meth 67 (.var 0) (.cons (.call 75 (.cons (.var 1) .nil)) (.cons (.bin .add (.part .x (.var 0) (.call 77 (.cons (.var 1) .nil))) (.call 84 (.cons (.var 1) .nil))) .nil)))) .nil)
/-- add_or_subtract -/
def k117 : Sts := .cons (.drop (.call 73 (.cons (.conj (.cons (.cmp .eq (.call 76 (.cons (.var 1) .nil)) (.int 0)) (.cons (.isin false (.call 80 (.cons (.var 1) .nil)) (.cons (.int 0) (.cons (.int 32) .nil))) .nil))) (.cons (.var 1) .nil)))) (.cons (.set 2 (.part .x (.var 0) (.call 77 (.cons (.var 1) .nil)))) (.cons (.set 3 (.part .x (.var 0) (.call 78 (.cons (.var 1) .nil)))) (.cons (.drop (.meth 67 (.var 0) (.cons (.call 75 (.cons (.var 1) .nil)) (.cons (.ite (.cmp .eq (.call 80 (.cons (.var 1) .nil)) (.int 0)) (.bin .add (.var 2) (.var 3)) (.bin .sub (.var 2) (.var 3))) .nil)))) .nil)))
/-- target_of -/
def k118 : Sts := .cons (.set 2 (.call 53 (.cons (.bin .add (.fld .pc (.var 0)) (.var 1)) .nil))) (.cons (.ite (.cmp .ne (.bin .mod (.var 2) (.int 4)) (.int 0)) (.cons (.fault (.con 14) (.var 2)) .nil) .nil) (.cons (.ret (.var 2)) .nil))
/-- is_taken -/
def k119 : Sts := .cons (.set 2 (.call 76 (.cons (.var 1) .nil))) (.cons (.drop (.call 73 (.cons (.isin false (.var 2) (.cons (.int 0) (.cons (.int 1) (.cons (.int 4) (.cons (.int 5) .nil))))) (.cons (.var 1) .nil)))) (.cons (.set 3 (.part .x (.var 0) (.call 77 (.cons (.var 1) .nil)))) (.cons (.set 4 (.part .x (.var 0) (.call 78 (.cons (.var 1) .nil)))) (.cons (.ite (.cmp .le (.var 2) (.int 1)) (.cons (.ret (.cmp .eq (.cmp .eq (.var 3) (.var 4)) (.cmp .eq (.var 2) (.int 0)))) .nil) .nil) (.cons (.ret (.cmp .eq (.cmp .lt (.call 54 (.cons (.var 3) (.cons (.int 64) .nil))) (.call 54 (.cons (.var 4) (.cons (.int 64) .nil)))) (.cmp .eq (.var 2) (.int 4)))) .nil)))))
/-- branch -/
def k120 : Sts := .cons (.ite (.call 119 (.cons (.var 0) (.cons (.var 1) .nil))) (.cons (.setF .pc (.var 0) (.call 118 (.cons (.var 0) (.cons (.call 86 (.cons (.var 1) .nil)) .nil)))) .nil) (.cons (.setF .pc (.var 0) (.bin .add (.fld .pc (.var 0)) (.int 4))) .nil)) .nil
/-- jump -/
def k121 : Sts := .cons (.set 2 (.call 118 (.cons (.var 0) (.cons (.call 87 (.cons (.var 1) .nil)) .nil)))) (.cons (.drop (.meth 67 (.var 0) (.cons (.call 75 (.cons (.var 1) .nil)) (.cons (.bin .add (.fld .pc (.var 0)) (.int 4)) .nil)))) (.cons (.setF .pc (.var 0) (.var 2)) .nil))
/-- execute -/
def k122 : Sts := .cons (.set 2 (.call 74 (.cons (.var 1) .nil))) (.cons (.ite (.cmp .eq (.var 2) (.int 83)) (.cons (.drop (.call 110 (.cons (.var 0) (.cons (.var 1) .nil)))) .nil) (.cons (.ite (.isin false (.var 2) (.cons (.int 67) (.cons (.int 71) (.cons (.int 75) (.cons (.int 79) .nil))))) (.cons (.drop (.call 98 (.cons (.var 0) (.cons (.var 1) .nil)))) .nil) (.cons (.ite (.cmp .eq (.var 2) (.int 7)) (.cons (.drop (.call 113 (.cons (.var 0) (.cons (.var 1) .nil)))) .nil) (.cons (.ite (.cmp .eq (.var 2) (.int 39)) (.cons (.drop (.call 114 (.cons (.var 0) (.cons (.var 1) .nil)))) .nil) (.cons (.ite (.cmp .eq (.var 2) (.int 19)) (.cons (.drop (.call 116 (.cons (.var 0) (.cons (.var 1) .nil)))) .nil) (.cons (.ite (.cmp .eq (.var 2) (.int 51)) (.cons (.drop (.call 117 (.cons (.var 0) (.cons (.var 1) .nil)))) .nil) (.cons (.ite (.cmp .eq (.var 2) (.int 55)) (.cons (.drop (.call 115 (.cons (.var 0) (.cons (.var 1) .nil)))) .nil) (.cons (.ite (.cmp .eq (.var 2) (.int 115)) (.cons (.drop (.call 91 (.cons (.var 0) (.cons (.var 1) .nil)))) .nil) (.cons (.fault (.con 16) (.var 1)) .nil)) .nil)) .nil)) .nil)) .nil)) .nil)) .nil)) .nil)) .nil)
/-- is_at_end -/
def k123 : Sts := .cons (.ret (.cmp .eq (.fld .pc (.var 0)) (.bin .mul (.int 4) (.wlen (.var 0))))) .nil
/-- next_word -/
def k124 : Sts := .cons (.ite (.disj (.cons (.cmp .gt (.fld .pc (.var 0)) (.bin .mul (.int 4) (.wlen (.var 0)))) (.cons (.cmp .ne (.bin .mod (.fld .pc (.var 0)) (.int 4)) (.int 0)) .nil))) (.cons (.fault (.con 15) (.fld .pc (.var 0))) .nil) .nil) (.cons (.ret (.word (.var 0) (.bin .fdiv (.fld .pc (.var 0)) (.int 4)))) .nil)
/-- step -/
def k125 : Sts := .cons (.set 1 (.call 124 (.cons (.var 0) .nil))) (.cons (.set 2 (.call 74 (.cons (.var 1) .nil))) (.cons (.ite (.cmp .eq (.var 2) (.int 99)) (.cons (.drop (.call 120 (.cons (.var 0) (.cons (.var 1) .nil)))) .nil) (.cons (.ite (.cmp .eq (.var 2) (.int 111)) (.cons (.drop (.call 121 (.cons (.var 0) (.cons (.var 1) .nil)))) .nil) (.cons (.ite (.cmp .ne (.var 1) (.con 23)) (.cons (.drop (.call 122 (.cons (.var 0) (.cons (.var 1) .nil)))) .nil) .nil) (.cons (.setF .pc (.var 0) (.bin .add (.fld .pc (.var 0)) (.int 4))) .nil))) .nil)) (.cons (.ret (.var 1)) .nil)))
/-- content_of -/
def k127 : Sts := .cons (.ite (.cmp .lt (.var 1) (.int 32)) (.cons (.ret (.part .x (.var 0) (.var 1))) .nil) .nil) (.cons (.ite (.cmp .lt (.var 1) (.con 35)) (.cons (.ret (.part .f (.var 0) (.bin .sub (.var 1) (.int 32)))) .nil) .nil) (.cons (.ite (.cmp .eq (.var 1) (.con 35)) (.cons (.ret (.fld .frm (.var 0))) .nil) .nil) (.cons (.ite (.cmp .eq (.var 1) (.con 36)) (.cons (.ret (.fld .fflags (.var 0))) .nil) .nil) (.cons (.ite (.cmp .eq (.var 1) (.con 37)) (.cons (.ret (.fld .pc (.var 0))) .nil) .nil) (.cons (.ite (.cmp .eq (.var 1) (.con 38)) (.cons (.ret (.fld .cause (.var 0))) .nil) .nil) (.cons (.ret (.fld .value (.var 0))) .nil))))))
/-- put_content -/
def k128 : Sts := .cons (.ite (.cmp .lt (.var 1) (.int 32)) (.cons (.drop (.meth 67 (.var 0) (.cons (.var 1) (.cons (.var 2) .nil)))) .nil) (.cons (.ite (.cmp .lt (.var 1) (.con 35)) (.cons (.setP .f (.var 0) (.bin .sub (.var 1) (.int 32)) (.var 2)) .nil) (.cons (.ite (.cmp .eq (.var 1) (.con 35)) (.cons (.setF .frm (.var 0) (.bin .and (.var 2) (.int 7))) .nil) (.cons (.ite (.cmp .eq (.var 1) (.con 36)) (.cons (.setF .fflags (.var 0) (.bin .and (.var 2) (.int 31))) .nil) (.cons (.setF .pc (.var 0) (.var 2)) .nil)) .nil)) .nil)) .nil)) .nil
/-- put_program -/
def k129 : Sts := .cons (.setW (.var 0) (.var 1)) (.cons (.setF .pc (.var 0) (.int 0)) .nil)
/-- put_bytes -/
def k130 : Sts := .cons (.enum_ 3 4 (.var 2) (.cons (.setP .mem (.var 0) (.bin .add (.var 1) (.var 3)) (.var 4)) .nil)) .nil
/-- answer_of_machine -/
def k131 : Sts := .cons (.ite (.cmp .eq (.var 1) (.con 30)) (.cons (.ret (.tolist (.call 126 (.cons (.var 0) (.cons (.at_ (.var 2) (.int 0)) .nil))))) .nil) .nil) (.cons (.ite (.cmp .eq (.var 1) (.con 31)) (.cons (.ret (.lst (.cons (.call 127 (.cons (.var 0) (.cons (.at_ (.var 2) (.int 0)) .nil))) .nil))) .nil) .nil) (.cons (.ite (.cmp .eq (.var 1) (.con 33)) (.cons (.unpack [3, 4] (.var 2)) (.cons (.ret (.cat (.lst (.cons (.var 4) .nil)) (.pcut (.var 0) (.var 3) (.bin .add (.var 3) (.var 4))))) .nil)) .nil) (.cons (.ite (.cmp .eq (.var 1) (.con 28)) (.cons (.drop (.meth0 66 (.var 0))) .nil) (.cons (.ite (.cmp .eq (.var 1) (.con 29)) (.cons (.drop (.call 129 (.cons (.var 0) (.cons (.from_ (.var 2) 1) .nil)))) .nil) (.cons (.ite (.cmp .eq (.var 1) (.con 32)) (.cons (.drop (.call 128 (.cons (.var 0) (.cons (.at_ (.var 2) (.int 0)) (.cons (.at_ (.var 2) (.int 1)) .nil))))) .nil) (.cons (.ite (.cmp .eq (.var 1) (.con 34)) (.cons (.drop (.call 130 (.cons (.var 0) (.cons (.at_ (.var 2) (.int 0)) (.cons (.from_ (.var 2) 2) .nil))))) .nil) .nil) .nil)) .nil)) .nil)) (.cons (.ret (.lst (.cons (.int 0) .nil))) .nil))))
/-- call_size -/
def k132 : Sts := .cons (.set 2 (.at_ (.var 0) (.var 1))) (.cons (.set 3 (.bin .add (.int 1) (.ctup 4 (.var 2)))) (.cons (.ite (.disj (.cons (.cmp .eq (.var 2) (.con 29)) (.cons (.cmp .eq (.var 2) (.con 34)) .nil))) (.cons (.ret (.bin .add (.var 3) (.at_ (.var 0) (.bin .sub (.bin .add (.var 1) (.var 3)) (.int 1))))) .nil) .nil) (.cons (.ret (.var 3)) .nil)))
/-- answer_of_numbers -/
def k134 : Sts := .cons (.ite (.cmp .eq (.var 0) (.con 39)) (.cons (.ret (.tolist (.call 93 (.cons (.at_ (.var 1) (.int 0)) (.cons (.at_ (.var 1) (.int 1)) (.cons (.at_ (.var 1) (.int 2)) (.cons (.cutl (.var 1) (.int 3) (.int 6)) .nil))))))) .nil) .nil) (.cons (.ite (.cmp .eq (.var 0) (.con 40)) (.cons (.ret (.tolist (.call 27 (.cons (.at_ (.var 1) (.int 0)) (.cons (.at_ (.var 1) (.int 1)) (.cons (.at_ (.var 1) (.int 2)) (.cons (.at_ (.var 1) (.int 3)) .nil))))))) .nil) .nil) (.cons (.ite (.cmp .eq (.var 0) (.con 41)) (.cons (.ret (.lst (.cons (.call 29 (.cons (.at_ (.var 1) (.int 0)) (.cons (.at_ (.var 1) (.int 1)) .nil))) .nil))) .nil) .nil) (.cons (.ite (.cmp .eq (.var 0) (.con 42)) (.cons (.ret (.tolist (.call 55 (.cons (.at_ (.var 1) (.int 0)) (.cons (.at_ (.var 1) (.int 1)) (.cons (.at_ (.var 1) (.int 2)) (.cons (.at_ (.var 1) (.int 3)) .nil))))))) .nil) .nil) (.cons (.ite (.cmp .eq (.var 0) (.con 43)) (.cons (.ret (.tolist (.call 63 (.cons (.at_ (.var 1) (.int 0)) (.cons (.at_ (.var 1) (.int 1)) (.cons (.at_ (.var 1) (.int 2)) (.cons (.at_ (.var 1) (.int 3)) .nil))))))) .nil) .nil) (.cons (.ret (.tolist (.call 65 (.cons (.at_ (.var 1) (.int 0)) (.cons (.at_ (.var 1) (.int 1)) (.cons (.at_ (.var 1) (.int 2)) (.cons (.at_ (.var 1) (.int 3)) .nil))))))) .nil)))))
/-- answer_of_call -/
def k135 : Sts := .cons (.ite (.not (.call 133 (.cons (.var 1) (.cons (.var 2) .nil)))) (.cons (.ret (.lst (.cons (.neg (.int 1)) .nil))) .nil) .nil) (.cons (.ite (.cmp .le (.var 1) (.con 44)) (.cons (.ret (.cat (.lst (.cons (.int 0) .nil)) (.call 134 (.cons (.var 1) (.cons (.var 2) .nil))))) .nil) .nil) (.cons (.ret (.cat (.lst (.cons (.int 0) .nil)) (.call 131 (.cons (.var 0) (.cons (.var 1) (.cons (.var 2) .nil)))))) .nil))
def codeOf : Nat → Sts := fun j => ([k0, k1, k2, k3, k4, k5, k6, k7, k8, k9, k10, k11, k12, k13, k14, k15, k16, k17, k18, k19, k20, k21, k22, k23, k24, k25, k26, k27, k28, k29, k30, k31, k32, k33, k34, k35, k36, k37, k38, k39, k40, k41, k42, k43, k44, k45, k46, k47, k48, k49, k50, k51, k52, k53, k54, k55, k56, k57, k58, k59, k60, k61, k62, k63, k64, k65, .nil, k67, k68, k69, k70, k71, k72, k73, k74, k75, k76, k77, k78, k79, k80, k81, k82, k83, k84, k85, k86, k87, k88, k89, k90, k91, k92, k93, k94, k95, k96, k97, .nil, k99, k100, k101, k102, k103, k104, k105, k106, k107, k108, k109, k110, k111, k112, k113, k114, k115, k116, k117, k118, k119, k120, k121, k122, k123, k124, k125, .nil, k127, k128, k129, k130, k131, k132, .nil, k134, k135, .nil] : List Sts).getD j .nil
end FH
end
section
set_option linter.all false
set_option Elab.async false
set_option maxRecDepth 100000
set_option maxHeartbeats 4000000
namespace FHG
open PySem PySem.Spec PyProof.Rows L2 FH
def nm : Nm := ⟨conL, ctL, diL, fnL, isMt⟩
def oddL : List Nat := [66, 98, 126, 133, 136]
def okJ (j : Nat) : Bool := oddL.contains j || chSs (namesL.getD j []) (defScope (stOf j)) nm j (codeOf j) (defBody (stOf j))
set_option maxRecDepth 100000 in
theorem all_ok : (List.range 137).all okJ = true := by decide +kernel
end FHG
end
section
set_option linter.all false
set_option Elab.async false
set_option maxRecDepth 100000
set_option maxHeartbeats 4000000
namespace FHG
open PySem PySem.Spec PyProof.Rows L2 FH
/-! ### zip of a tuple and a list: the machine's side -/
section
variable {prog : Program} {w : World} {A : Around} {E : Value → Shared → Prop} {s : Shared}
theorem mz_item {z TI TO i1 i2 l1 l2 : Addr} {k1 k2 : Nat} {xs ys : Array Value} {x y a b : Value} {Q : Value → Shared → Prop} (D : ZipApart z TI TO i1 i2 l1 l2)
    (hz : IsZip s.heap z TI TO .none) (hTI : IsPair s.heap TI (.ref i1) (.ref i2)) (hTO : IsPair s.heap TO a b)
    (h1 : s.heap.IsTupleIter i1 l1 k1) (h2 : s.heap.IsListIter i2 l2 k2) (hl1 : s.heap.IsTuple l1 xs) (hl2 : s.heap.IsList l2 ys) (hx : xs[k1]? = some x) (hy : ys[k2]? = some y)
    (hQ : ∀ h', IsZip h' z TI TO (rawInt s.heap.objs.size) → IsPair h' TO x y → h'.IsTupleIter i1 l1 (k1 + 1) → h'.IsListIter i2 l2 (k2 + 1) → IsPair h' s.heap.objs.size x y → h'.objs.size = s.heap.objs.size + 1 →
      (∀ c o, c ≠ z → c ≠ TO → c ≠ i1 → c ≠ i2 → s.heap.get? c = some o → h'.get? c = some o) → Q (.ref s.heap.objs.size) { s with heap := h' }) :
    wpAny (model prog w) A (Builtin.«zip.__next__» ⟨[.ref z], []⟩) (fun fin s' => ∃ v, fin = .done (.ret v) ∧ Q v s') E s := by
  show wpAny _ _ (field (.ref z) 2 >>= _) _ _ _
  refine wpAny_bind (wpAny_field hz rfl (x := .bool false) rfl ?_)
  show wpAny _ _ (field (.ref z) 3 >>= _) _ _ _
  refine wpAny_bind (wpAny_field hz rfl (x := .ref TI) rfl ?_)
  refine wpAny_bind (wpAny_seqItems hTI rfl ?_)
  show wpAny _ _ (Builtin.SmallTypes.ownedTupleIsFree (.ref z) >>= _) _ _ _
  refine wpAny_bind ?_
  unfold Builtin.SmallTypes.ownedTupleIsFree
  refine wpAny_bind (wpAny_field hz rfl (x := .none) rfl (wpAny_pure ?_))
  simp only [if_true]
  refine wpAny_bind (wpAny_rule ?_)
  refine wpAny_bind (wpAny_field hz rfl (x := .ref TO) rfl ?_)
  refine wpAny_bind (wpAny_setField_rec hz (by simp) fun h₁ hz₁ hs₁ => ?_)
  replace hz₁ : IsZip h₁ z TI TO .ellipsis := hz₁
  refine wpAny_bind ?_
  simp only [List.zipIdx_cons, List.zipIdx_nil, List.forIn_cons, List.forIn_nil]

  refine wpAny_bind (wpAny_bind (wpAny_onRaise ?_))
  show wpAny _ _ (Builtin.SmallTypes.nextOf (.ref i1) >>= _) _ _ _
  refine wpAny_bind (RZ.nextOf_tuple_item (h1.extBut hs₁.extBut D.i1z) (hl1.extBut hs₁.extBut D.l1z) hx fun h₂ h1₂ hs₂ => wpAny_pure ?_)
  have hTO₂ : IsPair h₂ TO a b := hs₂.extBut _ _ D.TOi1 (hs₁.extBut _ _ D.TOz hTO)
  refine wpAny_bind (wpAny_seqItems hTO₂ rfl ?_)
  refine wpAny_bind (wpAny_updateSeq_pair hTO₂ fun h₃ hTO₃ hs₃ => ?_)
  replace hTO₃ : IsPair h₃ TO x b := hTO₃
  refine wpAny_bind (wpAny_letGo (wpAny_pure ?_))

  refine wpAny_bind (wpAny_bind (wpAny_onRaise ?_))
  show wpAny _ _ (Builtin.SmallTypes.nextOf (.ref i2) >>= _) _ _ _
  refine wpAny_bind (wpAny_nextOf_list_item (((h2.extBut hs₁.extBut D.i2z).extBut hs₂.extBut D.i12.symm).extBut hs₃.extBut D.TOi2.symm)
    (((hl2.extBut hs₁.extBut D.l2z).extBut hs₂.extBut D.l2i1).extBut hs₃.extBut D.l2TO) hy fun h₄ h2₄ hs₄ => wpAny_pure ?_)
  have hTO₄ : IsPair h₄ TO x b := hs₄.extBut _ _ D.TOi2 hTO₃
  refine wpAny_bind (wpAny_seqItems hTO₄ rfl ?_)
  refine wpAny_bind (wpAny_updateSeq_pair hTO₄ fun h₅ hTO₅ hs₅ => ?_)
  replace hTO₅ : IsPair h₅ TO x y := hTO₅
  refine wpAny_bind (wpAny_letGo (wpAny_pure (wpAny_pure ?_)))

  refine wpAny_bind (wpAny_seqItems hTO₅ rfl ?_)
  refine wpAny_bind (wpAny_newTuple ?_)
  have hsz : h₅.objs.size = s.heap.objs.size := by rw [hs₅.1, hs₄.1, hs₃.1, hs₂.1, hs₁.1]
  have hz₅ : IsZip h₅ z TI TO .ellipsis := hs₅.extBut _ _ D.TOz.symm (hs₄.extBut _ _ D.i2z.symm (hs₃.extBut _ _ D.TOz.symm (hs₂.extBut _ _ D.i1z.symm hz₁)))
  have hk₅ : ∀ c o, c ≠ z → c ≠ TO → c ≠ i1 → c ≠ i2 → s.heap.get? c = some o → h₅.get? c = some o := fun c o c1 c2 c3 c4 e =>
    hs₅.extBut _ _ c2 (hs₄.extBut _ _ c4 (hs₃.extBut _ _ c2 (hs₂.extBut _ _ c3 (hs₁.extBut _ _ c1 e))))
  have h1₅ : h₅.IsTupleIter i1 l1 (k1 + 1) := ((h1₂.extBut hs₃.extBut D.TOi1.symm).extBut hs₄.extBut D.i12).extBut hs₅.extBut D.TOi1.symm
  have h2₅ : h₅.IsListIter i2 l2 (k2 + 1) := h2₄.extBut hs₅.extBut D.TOi2.symm
  have hzlt : z < h₅.objs.size := Heap.lt_size hz₅
  have hTOlt : TO < h₅.objs.size := Heap.lt_size hTO₅
  have hi1lt : i1 < h₅.objs.size := by obtain ⟨_, e, _⟩ := h1₅; exact Heap.lt_size e
  have hi2lt : i2 < h₅.objs.size := by obtain ⟨_, e, _⟩ := h2₅; exact Heap.lt_size e
  show wpAny _ _ (Builtin.SmallTypes.ownedTupleHandOut (.ref z) (.ref h₅.objs.size) >>= _) _ _ _
  refine wpAny_bind ?_
  unfold Builtin.SmallTypes.ownedTupleHandOut
  have hz₆ : IsZip (h₅.push { cls := .type "tuple", data := .seq #[x, y] }) z TI TO .ellipsis := Heap.get?_push_of_some _ hz₅
  refine wpAny_bind (wpAny_setField_rec hz₆ (by simp) fun h₇ hz₇ hs₇ => ?_)
  replace hz₇ : IsZip h₇ z TI TO (rawInt h₅.objs.size) := hz₇
  refine wpAny_setField_rec hz₇ (by simp) fun h₈ hz₈ hs₈ => ?_
  replace hz₈ : IsZip h₈ z TI TO (rawInt h₅.objs.size) := hz₈
  have up : ∀ c o, c ≠ z → h₅.get? c = some o → h₈.get? c = some o := fun c o c1 e => hs₈.extBut _ _ c1 (hs₇.extBut _ _ c1 (Heap.get?_push_of_some _ e))
  have hT₈ : IsPair h₈ h₅.objs.size x y := hs₈.extBut _ _ (Nat.ne_of_gt hzlt) (hs₇.extBut _ _ (Nat.ne_of_gt hzlt) (Heap.get?_push_size _ rfl))
  have hz8 : h₈.objs.size = h₅.objs.size + 1 := by rw [hs₈.1, hs₇.1, Heap.size_push]
  rw [hsz] at hz₈ hT₈ hz8
  refine wpAny_pure ⟨_, rfl, ?_⟩
  show Q (.ref h₅.objs.size) _
  rw [hsz]
  exact hQ h₈ hz₈ (up _ _ D.TOz hTO₅) (h1₅.at fun o e => up _ o D.i1z e) (h2₅.at fun o e => up _ o D.i2z e) hT₈ hz8 fun c o c1 c2 c3 c4 e => up c o c1 (hk₅ c o c1 c2 c3 c4 e)
theorem mz_end {z TI TO i1 i2 l1 l2 : Addr} {k1 k2 : Nat} {xs ys : Array Value} {a b : Value} {Q : Fin → Shared → Prop} (hh : A.handled = none) (D : ZipApart z TI TO i1 i2 l1 l2)
    (hz : IsZip s.heap z TI TO .none) (hTI : IsPair s.heap TI (.ref i1) (.ref i2)) (hTO : IsPair s.heap TO a b)
    (h1 : s.heap.IsTupleIter i1 l1 k1) (h2 : s.heap.IsListIter i2 l2 k2) (hl1 : s.heap.IsTuple l1 xs) (hl2 : s.heap.IsList l2 ys) (hend : xs[k1]? = none)
    (hE : ∀ h' e, (∀ c o, c ≠ z → c ≠ TO → c ≠ i1 → c ≠ i2 → s.heap.get? c = some o → h'.get? c = some o) → (∃ o, h'.get? e = some o ∧ o.cls = .type "StopIteration") → E (.ref e) { s with heap := h' }) :
    wpAny (model prog w) A (Builtin.«zip.__next__» ⟨[.ref z], []⟩) Q E s := by
  show wpAny _ _ (field (.ref z) 2 >>= _) _ _ _
  refine wpAny_bind (wpAny_field hz rfl (x := .bool false) rfl ?_)
  show wpAny _ _ (field (.ref z) 3 >>= _) _ _ _
  refine wpAny_bind (wpAny_field hz rfl (x := .ref TI) rfl ?_)
  refine wpAny_bind (wpAny_seqItems hTI rfl ?_)
  show wpAny _ _ (Builtin.SmallTypes.ownedTupleIsFree (.ref z) >>= _) _ _ _
  refine wpAny_bind ?_
  unfold Builtin.SmallTypes.ownedTupleIsFree
  refine wpAny_bind (wpAny_field hz rfl (x := .none) rfl (wpAny_pure ?_))
  simp only [if_true]
  refine wpAny_bind (wpAny_rule ?_)
  refine wpAny_bind (wpAny_field hz rfl (x := .ref TO) rfl ?_)
  refine wpAny_bind (wpAny_setField_rec hz (by simp) fun h₁ hz₁ hs₁ => ?_)
  replace hz₁ : IsZip h₁ z TI TO .ellipsis := hz₁
  refine wpAny_bind ?_
  simp only [List.zipIdx_cons, List.zipIdx_nil, List.forIn_cons, List.forIn_nil]
  refine wpAny_bind (wpAny_bind (wpAny_onRaise ?_))
  show wpAny _ _ (Builtin.SmallTypes.nextOf (.ref i1) >>= _) _ _ _
  refine wpAny_bind (RZ.nextOf_tuple_end hh (h1.extBut hs₁.extBut D.i1z) (hl1.extBut hs₁.extBut D.l1z) hend fun h₂ e hs₂ he => ?_)
  obtain ⟨oe, hoe, hce⟩ := he
  have hz₂ : IsZip h₂ z TI TO .ellipsis := hs₂ _ _ D.i1z.symm hz₁
  have hez : e ≠ z := fun x => by subst x; rw [hz₂] at hoe; cases hoe; simp at hce
  refine wpAny_setField_rec hz₂ (by simp) fun h₃ _ hs₃ => hE h₃ e (fun c o c1 _ c3 _ x => hs₃.extBut _ _ c1 (hs₂ _ _ c3 (hs₁.extBut _ _ c1 x))) ⟨oe, hs₃.extBut _ _ hez hoe, hce⟩
theorem mz_next {z TI TO i1 i2 l1 l2 : Addr} {k1 k2 : Nat} {xs ys : Array Value} {x y a b : Value} {Q : Option Value → Shared → Prop} (D : ZipApart z TI TO i1 i2 l1 l2)
    (hz : IsZip s.heap z TI TO .none) (hTI : IsPair s.heap TI (.ref i1) (.ref i2)) (hTO : IsPair s.heap TO a b)
    (h1 : s.heap.IsTupleIter i1 l1 k1) (h2 : s.heap.IsListIter i2 l2 k2) (hl1 : s.heap.IsTuple l1 xs) (hl2 : s.heap.IsList l2 ys) (hx : xs[k1]? = some x) (hy : ys[k2]? = some y)
    (hQ : ∀ h', IsZip h' z TI TO (rawInt s.heap.objs.size) → IsPair h' TO x y → h'.IsTupleIter i1 l1 (k1 + 1) → h'.IsListIter i2 l2 (k2 + 1) → IsPair h' s.heap.objs.size x y → h'.objs.size = s.heap.objs.size + 1 →
      (∀ c o, c ≠ z → c ≠ TO → c ≠ i1 → c ≠ i2 → s.heap.get? c = some o → h'.get? c = some o) → Q (some (.ref s.heap.objs.size)) { s with heap := h' }) :
    wpAny (model prog w) A (pyNext (.ref z)) Q E s := by
  have hT : s.TypeIs (.ref z) "zip" := ⟨_, hz, rfl⟩
  unfold pyNext
  exact wpAny_bind (wpAny_attempt (wpAny_callSpecial?_slot (name := Str.ofString "__next__") hT F.slot_zip_next
    (wpAny_call_entry F.slot_zip_next hT F.entry_zip_next
      (mz_item D hz hTI hTO h1 h2 hl1 hl2 hx hy fun h' a1 a2 a3 a4 a5 a6 a7 => wpAny_pure (hQ h' a1 a2 a3 a4 a5 a6 a7)) (F.args_zip_next_1 _))))
theorem mz_stop {z TI TO i1 i2 l1 l2 : Addr} {k1 k2 : Nat} {xs ys : Array Value} {a b : Value} {Q : Option Value → Shared → Prop} (hh : A.handled = none) (D : ZipApart z TI TO i1 i2 l1 l2)
    (hz : IsZip s.heap z TI TO .none) (hTI : IsPair s.heap TI (.ref i1) (.ref i2)) (hTO : IsPair s.heap TO a b)
    (h1 : s.heap.IsTupleIter i1 l1 k1) (h2 : s.heap.IsListIter i2 l2 k2) (hl1 : s.heap.IsTuple l1 xs) (hl2 : s.heap.IsList l2 ys) (hend : xs[k1]? = none)
    (hQ : ∀ h', (∀ c o, c ≠ z → c ≠ TO → c ≠ i1 → c ≠ i2 → s.heap.get? c = some o → h'.get? c = some o) → Q none { s with heap := h' }) : wpAny (model prog w) A (pyNext (.ref z)) Q E s := by
  have hT : s.TypeIs (.ref z) "zip" := ⟨_, hz, rfl⟩
  unfold pyNext
  refine wpAny_bind (wpAny_attempt (wpAny_callSpecial?_slot (name := Str.ofString "__next__") hT F.slot_zip_next
    (wpAny_call_entry F.slot_zip_next hT F.entry_zip_next (mz_end hh D hz hTI hTO h1 h2 hl1 hl2 hend fun h' e hk he => ?_) (F.args_zip_next_1 _))))
  obtain ⟨o, ho, hc⟩ := he
  refine wpAny_bind (wpAny_isInstance (T := "StopIteration") (b := true) ⟨o, ho, hc⟩ isSubtype_stop ?_)
  exact wpAny_pure (hQ _ hk)
end
abbrev mzH1 (h : Heap) (l1 : Addr) : Heap := h.push { cls := .type "tuple_iterator", data := .fields #[.ref l1, .int 0 0] }
abbrev mzH2 (h : Heap) (l1 l2 : Addr) : Heap := (mzH1 h l1).push { cls := .type "list_iterator", data := .fields #[.ref l2, .int 0 0] }
abbrev mzH3 (h : Heap) (l1 l2 : Addr) : Heap := (mzH2 h l1 l2).push { cls := .type "tuple", data := .seq #[.ref h.objs.size, .ref (mzH1 h l1).objs.size] }
abbrev mzH4 (h : Heap) (l1 l2 : Addr) : Heap := (mzH3 h l1 l2).push { cls := .type "tuple", data := .seq #[.none, .none] }
abbrev mzH5 (h : Heap) (l1 l2 : Addr) : Heap := (mzH4 h l1 l2).push { cls := .type "zip", data := .fields #[.none, .bool false, .bool false, .ref (mzH2 h l1 l2).objs.size, .ref (mzH3 h l1 l2).objs.size] }
theorem mz_new (l1 l2 : Addr) (xs ys : Array Value) :
    Meets (Builtin.«zip.__new__» ⟨[.type "zip", .ref l1, .ref l2], []⟩) (fun _ R s => s.heap.IsTuple l1 xs ∧ s.heap.IsList l2 ys ∧
      R (.ok (.ret (.ref (mzH4 s.heap l1 l2).objs.size))) { s with heap := mzH5 s.heap l1 l2 }) :=
  .of_wp fun prog w A R s h => by
    obtain ⟨hp, g, d, tk, os⟩ := s; obtain ⟨hl1, hl2, h⟩ := h
    have hsub := sub_zip
    have hL1 : Heap.IsTuple (Shared.heap ⟨hp, g, d, tk, os⟩) l1 xs := hl1
    have hL2 : Heap.IsList (Shared.heap ⟨hp.push { cls := .type "tuple_iterator", data := .fields #[.ref l1, .int 0 0] }, g, d, tk, os⟩) l2 ys := Heap.IsList.push hl2 _
    wp_walk using wpAny_pyIter_tuple hL1, wpAny_pyIter_list hL2
    exact ⟨_, rfl, h⟩
section
variable {prog : Program} {w : World} {A : Around} {E : Value → Shared → Prop} {s : Shared}
theorem mz_call {l1 l2 : Addr} {xs ys : Array Value} {Q : Value → Shared → Prop} (hl1 : s.heap.IsTuple l1 xs) (hl2 : s.heap.IsList l2 ys)
    (h : ∀ h', IsZip h' (s.heap.objs.size + 4) (s.heap.objs.size + 2) (s.heap.objs.size + 3) .none → IsPair h' (s.heap.objs.size + 2) (.ref s.heap.objs.size) (.ref (s.heap.objs.size + 1)) →
      IsPair h' (s.heap.objs.size + 3) .none .none → h'.IsTupleIter s.heap.objs.size l1 0 → h'.IsListIter (s.heap.objs.size + 1) l2 0 → h'.objs.size = s.heap.objs.size + 5 →
      (∀ c o, s.heap.get? c = some o → h'.get? c = some o) → Q (.ref (s.heap.objs.size + 4)) { s with heap := h' }) :
    wpAny (model prog w) A (call (.type "zip") [.ref l1, .ref l2]) Q E s := by
  refine callType_new F.called_zip (by decide) (F.typeCall_zip_2 _ _) (F.newCall_zip_2 _ _) (fun obj => F.args_object_init_3 obj _ _) F.entry_zip_new
    (mz_new l1 l2 xs ys) ⟨hl1, hl2, ?_⟩
  have z1 : (mzH1 s.heap l1).objs.size = s.heap.objs.size + 1 := Heap.size_push ..
  have z2 : (mzH2 s.heap l1 l2).objs.size = s.heap.objs.size + 2 := by rw [Heap.size_push, z1]
  have z3 : (mzH3 s.heap l1 l2).objs.size = s.heap.objs.size + 3 := by rw [Heap.size_push, z2]
  have z4 : (mzH4 s.heap l1 l2).objs.size = s.heap.objs.size + 4 := by rw [Heap.size_push, z3]
  have z5 : (mzH5 s.heap l1 l2).objs.size = s.heap.objs.size + 5 := by rw [Heap.size_push, z4]
  have g5 : (mzH5 s.heap l1 l2).get? (mzH4 s.heap l1 l2).objs.size = some _ := Heap.get?_push_size _ rfl
  have g4 : (mzH5 s.heap l1 l2).get? (mzH3 s.heap l1 l2).objs.size = some _ := Heap.get?_push_of_some _ (Heap.get?_push_size _ rfl)
  have g3 : (mzH5 s.heap l1 l2).get? (mzH2 s.heap l1 l2).objs.size = some _ := Heap.get?_push_of_some _ (Heap.get?_push_of_some _ (Heap.get?_push_size _ rfl))
  have g2 : (mzH5 s.heap l1 l2).get? (mzH1 s.heap l1).objs.size = some _ := Heap.get?_push_of_some _ (Heap.get?_push_of_some _ (Heap.get?_push_of_some _ (Heap.get?_push_size _ rfl)))
  have g1 : (mzH5 s.heap l1 l2).get? s.heap.objs.size = some _ := Heap.get?_push_of_some _ (Heap.get?_push_of_some _ (Heap.get?_push_of_some _ (Heap.get?_push_of_some _ (Heap.get?_push_size _ rfl))))
  show _ ∧ _
  rw [z2, z3, z4] at g5
  rw [z1, z2] at g3
  rw [z3] at g4
  rw [z1] at g2
  rw [z4]
  exact ⟨⟨_, g5, rfl⟩, h _ g5 g3 g4 ⟨_, g1, rfl, rfl⟩ ⟨_, g2, rfl, rfl⟩ z5 fun c o x =>
    Heap.get?_push_of_some _ (Heap.get?_push_of_some _ (Heap.get?_push_of_some _ (Heap.get?_push_of_some _ (Heap.get?_push_of_some _ x))))⟩
end
end FHG
end
section
set_option linter.all false
set_option Elab.async false
set_option maxRecDepth 100000
set_option maxHeartbeats 4000000
namespace FHG
open PySem PySem.Spec PyProof.Rows L2 FH

/-- a def of the table, callable -/
structure CanF (P : Program) (w : World) (K : PySem.W.Frag) (mg : Str → Option Value) (base : Heap) (C CF : Addr) (k : Nat) (x : Str) (d : Def) : Prop where
  ex : ∃ f fd ps, FnOk P w K mg base (L2.CX P w) k f fd ps (spG K C CF d) ∧ mg x = some (.ref f) ∧ PySem.W.keepIn K (.ref f) = true ∧ Binds K fd ps []
structure CanM (P : Program) (w : World) (K : PySem.W.Frag) (mg : Str → Option Value) (base : Heap) (C CF : Addr) (k : Nat) (x : Str) (d : Def) : Prop where
  ex : ∃ f fd ps, FnOk P w K mg base (L2.CX P w) k f fd ps (spG K C CF d) ∧ Meth K C x f ∧ Binds K fd ps []
  no : ∀ P m, (mF P m).lookup x = none
/-- what the top has left -/
structure Wd (P : Program) (w : World) (K : PySem.W.Frag) (mg : Str → Option Value) (C CF : Addr) (T : Tab) (nm : Nm) : Prop where
  con : ∀ k x, nm.con[k]? = some x → ∃ t, mg x = some (.int (T.con k) t)
  ctup : ∀ k x, nm.ctup[k]? = some x → ∃ p, mg x = some (.ref p) ∧ ∀ H, SqT K H p (vI (T.ctup k))
  dict : ∀ k x, nm.dict[k]? = some x → ∃ p, mg x = some (.ref p) ∧ ∀ X : Cx, X.K = K → X.w = w → OpR X (compareOp .In) (fun u v H Q => ∃ i, u = .int i ∧ v = .ref p ∧ Q (.bl (dig (T.dict k) i).isSome) H) ∧
    IxR X (fun u v H Q => ∃ i pv, u = .ref p ∧ v = .int i ∧ dig (T.dict k) i = some pv ∧ ∀ z, (∀ a Sh P, Rl X.K a Sh H P pv z) → Q z H)
  blt : ∀ x, x ∈ noBlt → mg x = none
  cl : Cls K C
  na : ∀ f, f ∈ attrs → NoAttr K C f
  flt : ∀ X : Cx, X.K = K → X.w = w → X.prog = P → X.mg = mg → X.calm = true → Room 3 X.A → ∀ (e1 e2 : Expr) (t1 t2 : TE) (p pos : Pos), plainE e1 = true → plainE e2 = true → Gl X "Fault" → L2.PE X e1 t1 → L2.PE X e2 t2 →
    PMk X (.Call (.Name "Fault" p) [e1, e2] [] pos) (fun σ H Q => t1 σ H fun u H1 => t2 σ H1 fun v H2 => ∀ d, H2 d = none → Q (.ref CF) (some d) (upd H2 d (.xd [("value", v), ("cause", u)])))
/-- all defs below n can be called at k -/
structure Below (P : Program) (w : World) (K : PySem.W.Frag) (mg : Str → Option Value) (base : Heap) (C CF : Addr) (T : Tab) (nm : Nm) (k n : Nat) : Prop where
  fn : ∀ j x, j < n → nm.mt j = false → nm.fn[j]? = some x → CanF P w K mg base C CF k x (T.fn j)
  mt : ∀ j x, j < n → nm.mt j = true → nm.fn[j]? = some x → CanM P w K mg base C CF k x (T.fn j)

def senv (N : List Str) (args : List PV) : FH.Env := args.map some ++ List.replicate (N.length - args.length) none
/-- the code of a def is right: what it asks and answers -/
def Good (T : Tab) (d : Def) (n : Nat) (N : List Str) (c : FH.Sts) : Prop := ∀ args m, d.pre args m → args.length = n ∧
  exs T (fun i j m' => d.fn args m = (.flt i j, m')) c (senv N args) m (fun _ m' => d.fn args m = (.ok .non, m')) (fun v m' => d.fn args m = (.ok v, m'))

theorem er_start {K : PySem.W.Frag} {a : Addr} {Sh : Addr → Prop} {H : Hp} {P : Pt} {N : List Str} {args : List PV} {vs : List V} (r : Rls K a Sh H P args vs) : ER K a Sh H P (senv N args) (L2.start N vs) := by
  have hl := rls_len r
  refine ⟨by unfold senv L2.start; simp only [List.length_append, List.length_map, List.length_replicate]; rw [hl], fun i v e => ?_⟩
  have hi : i < args.length := by
    unfold senv at e
    by_cases hi : i < args.length
    · exact hi
    · rw [List.getElem?_append_right (by rw [List.length_map]; omega), List.getElem?_replicate] at e
      split at e <;> cases e
  have key : ∀ {vs : List PV} {us : List V} {i : Nat} {v : PV}, Rls K a Sh H P vs us → vs[i]? = some v → ∃ u, us[i]? = some u ∧ Rl K a Sh H P v u := by
    intro vs
    induction vs with
    | nil => intro us i v _ e; simp at e
    | cons x xs ih =>
      intro us i v ⟨u, rr, e1, r1, r2⟩ e
      subst e1
      cases i with
      | zero =>
        have e : x = v := Option.some.inj e
        subst e
        exact ⟨u, rfl, r1⟩
      | succ i => exact ih (us := rr) (i := i) r2 e
  have ha : args[i]? = some v := by
    unfold senv at e
    rw [List.getElem?_append_left (by rw [List.length_map]; exact hi), List.getElem?_map] at e
    cases q : args[i]? with
    | none => rw [q] at e; cases e
    | some z =>
      rw [q] at e
      exact congrArg some (Option.some.inj (Option.some.inj e))
  obtain ⟨u, e1, r1⟩ := key r ha
  refine ⟨u, ?_, r1⟩
  have hi2 : i < vs.length := by omega
  unfold L2.start
  rw [List.getElem?_append_left (by rw [List.length_map]; exact hi2), List.getElem?_map, e1]
  rfl

section
variable {P : Program} {w : World} {K : PySem.W.Frag} {mg : Str → Option Value} {base : Heap} {C CF : Addr} {T : Tab} {nm : Nm}
/-- a body's ground -/
theorem bd_of (W : Wd P w K mg C CF T nm) {k n : Nat} (L : Below P w K mg base C CF T nm k n) (hk : 3 ≤ k) {N ps : List Str} {scope : Scope} (S : FnScope N ps scope) {qual : Str} {f : Addr} {cdv : Value} {A : Around} {outer : List PySem.Env} {s : Shared} {H : Hp} {E : XK} {a : Addr} {P0 : Pt} {F : FQ} {Sh : Addr → Prop} {hs : ∀ p, H p = none → Sh p}
    (hr : Room k (A.deeper (envOfC qual scope s.heap.objs.size f cdv)))
    (fl : ∀ c w' m' x H' P', F c w' m' → Step a Sh H P0 H' P' → MAt C a H' P' m' → H' x = some (.xd [("value", .int w'), ("cause", .int c)]) → E (.ref CF) (some x) H') :
    Bd (cxOf (L2.CX P w) P w K mg base N qual scope f cdv A outer s H E) ⟨C, CF, a, H, P0, T, F, E, Sh, hs⟩ N scope nm n where
  N := rfl
  sc := rfl
  nd := S.nd
  fnT := fun _ => rfl
  calm := rfl
  hu := hu_of hr
  con := W.con
  ctup := W.ctup
  dict := fun j x e => by
    obtain ⟨p, e1, h⟩ := W.dict j x e
    obtain ⟨h1, h2⟩ := h (cxOf (L2.CX P w) P w K mg base N qual scope f cdv A outer s H E) rfl rfl
    exact ⟨p, e1, h1, h2⟩
  blt := W.blt
  cl := W.cl
  na := W.na
  fn := fun j x h1 h2 h3 => by
    obtain ⟨⟨f0, fd, ps0, h4, h5, h6, h7⟩⟩ := L.fn j x h1 h2 h3
    exact ⟨f0, fd, ps0, k, h4, hr, h5, h6, h7⟩
  mt := fun j x h1 h2 h3 => by
    obtain ⟨⟨f0, fd, ps0, h4, h5, h6⟩, h7⟩ := L.mt j x h1 h2 h3
    exact ⟨f0, fd, ps0, k, h4, hr, h5, h6, h7⟩
  tk := takes_of rfl rfl rfl rfl
  po := passes_of rfl
  flt := W.flt _ rfl rfl rfl rfl rfl (hr.mono hk)
  fl := fl
theorem def_ok (W : Wd P w K mg C CF T nm) {k n : Nat} (L : Below P w K mg base C CF T nm k n) (hk : 3 ≤ k) {x qual : Str} {params : Arguments} {body : List Stmt} {scope : Scope} {f : Addr} {fd : FuncData} {N ps : List Str} {d : Def} {c : FH.Sts}
    (F : FunD K x qual params body scope [] [] f fd) (S : FnScope N ps scope) (hc : chSs N scope nm n c body = true) (g : Good T d ps.length N c) : FnOk P w K mg base (L2.CX P w) (k + 1) f fd ps (spG K C CF d) := by
  refine F.ok S (fun vs H Q E h => ?_) (fun cdv A outer s H vs Q E hr h => ?_)
  · obtain ⟨a, args, m, P0, r, ma, pre, _⟩ := h
    rw [rls_len r]
    exact (g args m pre).1
  · obtain ⟨a, args, m, P0, r, ma, pre, kO, kF⟩ := h
    have B := bd_of W L hk S (qual := qual) (f := f) (cdv := cdv) (A := A) (outer := outer) (s := s) (H := H) (E := E) (a := a) (P0 := P0) (F := fun i j m' => d.fn args m = (.flt i j, m')) (Sh := ShA args vs H) (hs := fun _ h => .inr h) hr fun i j m' x H' P' e st ma' ex => kF i j m' e x H' P' st ma' ex
    refine ⟨_, g_pss B c body hc, senv N args, m, P0, ⟨er_start r, ma, .refl ma.thr⟩, exs_mono c (fun s' m' e σ' H' P' er st ma' => ?_) (fun v m' e u H' P' st ma' rl => ?_) (g args m pre).2⟩
    · exact kO .non m' e .non H' P' st ma' rfl
    · exact kO v m' e u H' P' st ma' rl
end
end FHG
end
section
set_option linter.all false
set_option Elab.async false
set_option maxRecDepth 100000
set_option maxHeartbeats 4000000
namespace FHG
open PySem PySem.Spec PyProof.Rows L2 FH

/-! ### an own exception class over Exception, with its own __init__ -/
structure FxC (K : PySem.W.Frag) (C : Addr) : Prop where
  cls : ∃ nm q N bs sn sub ab col dd k0 k1 k2 k3 k5, K.lookup C = some (excClassObj nm q C N bs PySem.ESX.exTail true sn sub ab col dd k0 k1 k2 k3 k5 "Exception.__new__")
  sa : PySem.W.findIn K (.ref C) "__setattr__" = some (some (.builtin "object.__setattr__"))
  be : PySem.W.subIn K (.ref C) (.type "BaseException") = some true
  ty : PySem.W.typeIn K (.ref C) = some (.type "type")
  kp : PySem.W.keepIn K (.ref C) = true
  nc : PySem.W.findIn K (.ref C) "cause" = some none
  nv : PySem.W.findIn K (.ref C) "value" = some none
section
variable {X : Cx} {pins : List (Addr × Obj)} {σ : L2.St} {H : Hp} {s : Shared} {x C d : Addr} {f : Str} {y : V} {u : Value} {fs : List (Str × V)} {E : Value → Shared → Prop} {A : Around}
theorem fx_cls (T : FxC X.K C) : ∃ cd : ClassData, PySem.W.clsIn X.K C = some cd ∧ cd.mro = .ref C :: PySem.ESX.exTail ∧ cd.hasDict = true := by
  obtain ⟨nm, q, N, bs, sn, sub, ab, col, dd, k0, k1, k2, k3, k5, hC⟩ := T.cls
  refine ⟨{ name := nm, bases := bs, mro := .ref C :: PySem.ESX.exTail, ns := N, qualname := q, hasDict := true, slotNames := sn, subclasses := sub, abstract := ab, collection := col, hasDel := false }, ?_, rfl, rfl⟩
  unfold PySem.W.clsIn
  rw [hC]
  first | done | rfl
/-- the first field -/
theorem fx_new {Q : Unit → Shared → Prop} (T : FxC X.K C) (I : Inv X pins σ H s) (hx : H x = some (exo x C none)) (no : PySem.W.findIn X.K (.ref C) f = some none) (ry : RelV y u)
    (h : ∀ d s', H d = none → d ≠ x → Inv X pins σ (upd (upd H d (exd d [(f, y)])) x (exo x C (some d))) s' → Q () s') : wpAny (model X.prog X.w) A (setAttr (.ref x) f u) Q E s := by
  obtain ⟨cd, c1, c2, c3⟩ := fx_cls T
  obtain ⟨t1, ho⟩ := exo_at I.hok hx
  obtain ⟨hp, gs, dr, tk, os⟩ := s
  refine PySem.W.set_plain I.kIn (ox := { cls := .ref C, dict := none, data := .fields #[.ref t1, .none, .none, .none, .bool false, .none] }) (od := none) ⟨ho, rfl, rfl, trivial⟩ T.sa ?_
  refine PySem.ESX.osa_new I.kIn ho c1 c2 c3 no fun h' tk' d keep big ne hx' hns => ?_
  have fresh : H d = none := I.hok.fresh big
  have old : ∀ {b : Addr} {o : Obj}, hp.get? b = some o → b ≠ d := fun q => Nat.ne_of_lt (Nat.lt_of_lt_of_le (Heap.lt_size q) big)
  have nx : ∀ {b : Addr}, H b = none → b ≠ x := fun n z => by rw [z, hx] at n; cases n
  have kx : ∀ {b : Addr} {o : HO}, H b = some o → exo x C none ≠ o → upd (upd H d (exd d [(f, y)])) x (exo x C (some d)) b = some o := fun {b o} q n => by
    have nb : b ≠ x := fun z => by rw [z, hx] at q; exact n (Option.some.inj q)
    have nd : b ≠ d := fun z => by rw [z, fresh] at q; cases q
    rw [upd_ne nb, upd_ne nd]
    exact q
  have un : Un X.fs [] H (upd (upd H d (exd d [(f, y)])) x (exo x C (some d))) hp h' :=
    ⟨fun b o q n _ _ => keep b o (nx n) q, fun b o q n _ _ => ⟨o.slots, keep b o (nx n) q⟩, fun b o q n _ => by rw [upd_ne (nx n), upd_ne (old q)]; exact n,
      fun b o q _ => if hb : b = x then ⟨_, hb ▸ hx'⟩ else ⟨o, keep b o hb q⟩, fun b xs q => kx q exo_tup, fun b o v q => kx q exo_frz, fun b ps q => ⟨#[], by rw [kx q exo_tbl]; simp⟩⟩
  refine h d _ fresh ne (I.un (t' := tk') un fun b o q => ?_)
  by_cases hb : b = x
  · subst hb
    rw [upd_same] at q
    cases q
    exact exo_ok hx'
  rw [upd_ne hb] at q
  by_cases hd : b = d
  · subst hd
    rw [upd_same] at q
    cases q
    exact exd_ok hns (relO_put (fs := []) ry fun _ => True.intro)
  rw [upd_ne hd] at q
  have away : ∀ {c : Addr}, H c = some (.own b) → c ≠ x := fun hc z => by rw [z, hx] at hc; exact exo_own (Option.some.inj hc)
  refine (I.hok b o q).stay (fun c v hc z => keep c v ?_ z) (fun c hc => kx hc exo_own) fun c xs hc => kx hc exo_tup
  rcases hc with hc | hc
  · rw [hc]
    exact hb
  · exact away hc
/-- a further one -/
theorem fx_old {Q : Unit → Shared → Prop} (T : FxC X.K C) (I : Inv X pins σ H s) (hx : H x = some (exo x C (some d))) (hd : H d = some (exd d fs)) (hl : fs.length ≤ 900) (no : PySem.W.findIn X.K (.ref C) f = some none) (ry : RelV y u)
    (h : ∀ s', Inv X pins σ (upd H d (exd d ((f, y) :: fs))) s' → Q () s') : wpAny (model X.prog X.w) A (setAttr (.ref x) f u) Q E s := by
  obtain ⟨cd, c1, c2, c3⟩ := fx_cls T
  obtain ⟨t1, ho⟩ := exo_at I.hok hx
  obtain ⟨mA, hns, rel⟩ := exd_at I.hok hd
  have hw := within_of rel
  obtain ⟨hp, gs, dr, tk, os⟩ := s
  obtain ⟨oD, _, _, hoD, _, _⟩ := hns.count hw
  refine PySem.W.set_plain I.kIn (ox := { cls := .ref C, dict := some d, data := .fields #[.ref t1, .none, .none, .none, .bool false, .none] }) (od := some oD) ⟨ho, rfl, rfl, hoD⟩ T.sa ?_
  refine PySem.ESX.osa_old I.kIn ho hns hw (by simp only [List.length_map]; omega) c1 c2 c3 no fun h' tk' keep hn => ?_
  have hd' : ∃ o, h'.get? d = some o := let ⟨o, _, _, e, _⟩ := hn; ⟨o, e⟩
  exact h _ (I.write (t' := tk') (x := d) (e := d) (o := exd d ((f, y) :: fs)) (by rw [hd]; trivial) (.inl rfl) keep hd' (exd_ok hn (relO_put ry rel)))
/-- Exception.__init__(self) -/
theorem fx_init {us : List Value} {Q : Value → Shared → Prop} (T : FxC X.K C) (I : Inv X pins σ H s) (hx : H x = some (exo x C none)) (hl : us.length ≤ sizeLine) (h : ∀ s', Inv X pins σ H s' → Q .none s') :
    wpAny (model X.prog X.w) A (call (.builtin "Exception.__init__") (.ref x :: us)) Q E s := by
  obtain ⟨nm, q, N, bs, sn, sub, ab, col, dd, k0, k1, k2, k3, k5, hC⟩ := T.cls
  obtain ⟨t1, ho⟩ := exo_at I.hok hx
  obtain ⟨hp, gs, dr, tk, os⟩ := s
  refine wpAny_call (PySem.HandSPX.init_base F.excBase_Exception (fun _ => rfl) (I.kIn _ _ hC) ho hl fun h' t2 keep he => ?_)
  have J := I.write (t' := tk) (x := x) (e := x) (o := exo x C none) (by rw [hx]; trivial) (.inl rfl) keep ⟨_, he⟩ (exo_ok he)
  have same : upd H x (exo x C none) = H := funext fun b => if hb : b = x then by rw [hb, upd_same, hx] else upd_ne hb
  rw [same] at J
  exact h _ J
end
/-! ### rules -/
def tFi (K : PySem.W.Frag) (te : TE) : TE := fun σ H Q => te σ H fun v H1 => ∃ x C : Addr, [v] = [V.ref x] ∧ FxC K C ∧ H1 x = some (exo x C none) ∧ Q .non H1
def tFs (K : PySem.W.Frag) (f : Str) (to te : TE) : TS := fun D σ H => te σ H fun y H1 => to σ H1 fun v H2 => ∃ x C : Addr, v = .ref x ∧ FxC K C ∧ PySem.W.findIn K (.ref C) f = some none ∧
  ((H2 x = some (exo x C none) ∧ ∀ d, H2 d = none → d ≠ x → D.nx σ (upd (upd H2 d (exd d [(f, y)])) x (exo x C (some d)))) ∨
    ∃ (d : Addr) (fs : List (Str × V)), H2 x = some (exo x C (some d)) ∧ H2 d = some (exd d fs) ∧ fs.length ≤ 900 ∧ D.nx σ (upd H2 d (exd d ((f, y) :: fs))))
section
variable {X : Cx} {o e : Expr} {to te : TE} {f : Str} {p1 p2 p3 pos : Pos}
theorem pe_finit {z : Str} (hg : Gl X "Exception") (hm : X.mg "Exception" = none) (vV : PySem.W.findCls X.K (.type "Exception") (.type "type") "__init__" = some (.val (.builtin "Exception.__init__"))) (he : L2.PE X (.Name z p3) te) (hl : (p2.endLine == pos.line) = true) :
    L2.PE X (.Call (.Attribute (.Name "Exception" p1) "__init__" p2) [.Name z p3] [] pos) (tFi X.K te) := by
  refine ⟨fun ps s σ H Q I h => ?_⟩
  have hc : eval (.Call (.Attribute (.Name "Exception" p1) "__init__" p2) [.Name z p3] [] pos) X.env = (do
      let ov ← eval (.Name "Exception" p1) X.env
      standAt p2.atName
      let (f, first) ← holding [ov] (getMethod ov "__init__" (do return (← importBound (.Name "Exception" p1) X.env).getD true))
      callWith pos f first (backTo pos (starEach [.Name z p3] X.env)) (backToKw pos (keywordEach [] X.env))) := by
    show (do
      let ov ← eval (.Name "Exception" p1) X.env
      standAt p2.atName
      methodCall (.Name "Exception" p1) "__init__" p2 pos X.env ov 1 (backTo pos (starEach [.Name z p3] X.env)) (backToKw pos (keywordEach [] X.env))) = _
    unfold methodCall
    have e3 : methodCallPos true (.Name "Exception" p1) X.env p2 pos = pure pos := by
      unfold methodCallPos
      rw [hl]
      rfl
    show (do
      let ov ← eval (.Name "Exception" p1) X.env
      standAt p2.atName
      let (f, first) ← holding [ov] (getMethod ov "__init__" (do return (← importBound (.Name "Exception" p1) X.env).getD true))
      let callPos ← methodCallPos true (.Name "Exception" p1) X.env p2 pos
      callWith callPos f first _ _) = _
    rw [e3]
    rfl
  refine PySem.W.methodCall_KW (ld_blt I hg hm PyProof.Rows.Boot.«Exception» ?_ (by decide) (by decide)) hc
  obtain ⟨m, fr⟩ := I.fr
  have ty : typeOf (.type "Exception") = pure (.type "type") := by kernel_rfl
  refine PySem.W.method_type fr I.ok.mod.kin ty (by decide +kernel) vV (by decide +kernel) ?_
  show wpAny _ _ (callWith pos (Value.builtin "Exception.__init__") [] (backTo pos (starEach [.Name z p3] X.env)) []) _ X.xe _
  have ha : L2.PA X [.Name z p3] (tCons te tNil) := pa_cons he pa_nil
  refine PyProof.Rows.callWith_method1 (thn (ha.run pos ps _ σ H (fun vs H1 => ∃ x C : Addr, vs = [V.ref x] ∧ FxC X.K C ∧ H1 x = some (exo x C none) ∧ Q .non H1) (I.tok _) h) fun us s1 ⟨vs, H1, I1, r1, x, C, e1, T, hx, q⟩ => ?_) rfl rfl
  subst e1
  cases r1 with
  | cons ra rn =>
    cases rn
    obtain rfl : _ = Value.ref x := ra
    exact fx_init T I1 hx (Nat.zero_le _) fun s' J => ⟨.non, H1, J, rfl, q⟩
theorem ps_fx (ho : L2.PE X o to) (he : L2.PE X e te) (hp : plainE e = true) : L2.PS X (.Assign [.Attribute o f p2] e pos) (tFs X.K f to te) := by
  refine ⟨fun ps s σ H D I h => ?_⟩
  refine plainObj_wpAny_Assign_Attribute (thn (he.run ps s σ H _ I h) fun v s1 ⟨y, H1, I1, r1, q1⟩ => thn (ho.run ps s1 σ H1 _ I1 q1) fun u s2 ⟨z, H2, I2, r2, x, C, ex, T, no, q⟩ => ?_) (plain_swap hp)
  subst ex
  obtain rfl : u = Value.ref x := r2
  rcases q with ⟨hx, q⟩ | ⟨d, fs, hx, hd, hl, q⟩
  · exact fx_new T I2 hx no r1 fun d s' n ne J => ⟨σ, _, J, q d n ne⟩
  · exact fx_old T I2 hx hd hl no r1 fun s' J => ⟨σ, _, J, q⟩
/-- the promise of such an __init__(self, cause, value) -/
def spFi (CF : Addr) : Sp := fun vs H Q _ => ∃ (x : Addr) (u v : V), vs = [.ref x, u, v] ∧ H x = some (exo x CF none) ∧
  ∀ d, H d = none → d ≠ x → Q .non (upd (upd (upd H d (exd d [("cause", u)])) x (exo x CF (some d))) d (exd d [("value", v), ("cause", u)]))
/-- C(e1, e2) as what is raised -/
theorem pmk_fx {CX : CXT} {CF fI : Addr} {k : Nat} {fd : FuncData} {ps : List Str} {e1 e2 : Expr} {t1 t2 : TE} {z : Str} (T : FxC X.K CF) (iC : PySem.W.findIn X.K (.ref CF) "__init__" = some (some (.ref fI))) (tI : PySem.W.typeIn X.K (.ref fI) = some (.type "function"))
    (F1 : FnOk X.prog X.w X.K X.mg X.base CX k fI fd ps (spFi CF)) (hr : Room (k + 1) X.A) (hb : Binds X.K fd ps []) (hx : Passes CX X (fun _ _ _ => False)) (hg : Gl X z) (hm : X.mg z = some (.ref CF)) (hdb : (z == ("__debug__" : Str)) = false)
    (h1 : plainE e1 = true) (h2 : plainE e2 = true) (ha : L2.PE X e1 t1) (hb2 : L2.PE X e2 t2) :
    PMk X (.Call (.Name z p1) [e1, e2] [] pos) (fun σ H Q => t1 σ H fun u H1 => t2 σ H1 fun v H2 => ∀ d, H2 d = none → Q (.ref CF) (some d) (upd H2 d (.xd [("value", v), ("cause", u)]))) := by
  intro pins s σ H Q I h
  obtain ⟨nm, q, N, bs, sn, sub, ab, col, dd, k0, k1, k2, k3, k5, hC⟩ := T.cls
  have pa : L2.PA X [e1, e2] (tCons t1 (tCons t2 tNil)) := pa_cons ha (pa_cons hb2 pa_nil (plain_star h2)) (plain_star h1)
  have npl : (backTo pos (starEach [e2] X.env)).any (·.1) = false := by
    rw [plain_star h2]
    rfl
  refine wpAny_Call_Name_kw (ld_glob I hg hm ?_ hdb)
  refine PySem.W.callWith_K (h₀ := X.base) I.ok.mod.kin T.kp (thn (pa.run pos pins s σ H (fun vs H2 => match vs with | [u, v] => ∀ d, H2 d = none → Q (.ref CF) (some d) (upd H2 d (.xd [("value", v), ("cause", u)])) | _ => False) I h) fun us s1 ⟨vs, H1, I1, r1, q1⟩ => ⟨I1.kIn, ?_⟩) (plain_star h1) npl
  obtain ⟨u, v, rfl, q1⟩ : ∃ u v, vs = [u, v] ∧ ∀ d, H1 d = none → Q (.ref CF) (some d) (upd H1 d (.xd [("value", v), ("cause", u)])) := by
    dsimp only at q1
    split at q1
    · exact ⟨_, _, rfl, q1⟩
    · exact q1.elim
  show wpAny _ _ (call (.ref CF) us) _ _ _
  obtain ⟨hp, gs, dr, tk, os⟩ := s1
  have up1 : hp.objs.size ≤ hp.objs.size + 1 := Nat.le_succ _
  have hn : H1 (hp.objs.size + 1) = none := I1.hok.fresh up1
  have keep : ∀ b o, hp.get? b = some o → ((hp.push (PySem.W.kdv_tup us)).push (PySem.HandSPX.excO CF hp.objs.size)).get? b = some o := fun b o e => Heap.get?_push_of_some _ (Heap.get?_push_of_some _ e)
  have there : ((hp.push (PySem.W.kdv_tup us)).push (PySem.HandSPX.excO CF hp.objs.size)).get? (hp.objs.size + 1) = some (PySem.HandSPX.excO CF hp.objs.size) := by heap_get
  have I2 : Inv X pins σ (upd H1 (hp.objs.size + 1) (exo (hp.objs.size + 1) CF none)) ⟨(hp.push (PySem.W.kdv_tup us)).push (PySem.HandSPX.excO CF hp.objs.size), gs, dr, tk, os⟩ :=
    I1.laid (t' := tk) (a := hp.objs.size + 1) (o := exo (hp.objs.size + 1) CF none) keep up1 (exo_ok there)
  have r2 : Vals [V.ref (hp.objs.size + 1), u, v] (Value.ref (hp.objs.size + 1) :: us) := .cons rfl r1
  have sp0 : spFi CF [V.ref (hp.objs.size + 1), u, v] (upd H1 (hp.objs.size + 1) (exo (hp.objs.size + 1) CF none))
      (fun w H2 => w = .non ∧ ∃ (d : Addr) (fs : List (Str × V)), H2 (hp.objs.size + 1) = some (exo (hp.objs.size + 1) CF (some d)) ∧ H2 d = some (exd d fs) ∧ H1 d = none ∧ Q (.ref CF) (some d) (upd (del H2 (hp.objs.size + 1)) d (.xd fs))) (fun _ _ _ => False) := by
    refine ⟨_, u, v, rfl, upd_same, fun d hd ne => ⟨rfl, d, _, ?_, upd_same, ?_, ?_⟩⟩
    · rw [upd_ne ne.symm, upd_same]
    · rw [upd_ne ne] at hd
      exact hd
    · rw [upd_ne ne] at hd
      have same : upd (del (upd (upd (upd (upd H1 (hp.objs.size + 1) (exo (hp.objs.size + 1) CF none)) d (exd d [("cause", u)])) (hp.objs.size + 1) (exo (hp.objs.size + 1) CF (some d))) d (exd d [("value", v), ("cause", u)])) (hp.objs.size + 1)) d (.xd [("value", v), ("cause", u)]) = upd H1 d (.xd [("value", v), ("cause", u)]) := by
        funext b
        by_cases b1 : b = d
        · rw [b1, upd_same, upd_same]
        rw [upd_ne b1, upd_ne b1]
        by_cases b2 : b = hp.objs.size + 1
        · rw [b2, del_same, hn]
        rw [del_ne b2, upd_ne b1, upd_ne b2, upd_ne b1, upd_ne b2]
      rw [same]
      exact q1 d hd
  have len3 : (Value.ref (hp.objs.size + 1) :: us).length = ps.length := by
    rw [← r2.length]
    exact F1.len _ _ _ _ sp0
  have bnd := hb ⟨(hp.push (PySem.W.kdv_tup us)).push (PySem.HandSPX.excO CF hp.objs.size), gs, dr, tk, os⟩ (Value.ref (hp.objs.size + 1) :: us) I2.kIn (by rw [List.append_nil]; exact len3)
  rw [List.append_nil] at bnd
  have few : us.length ≤ sizeLine := by
    rw [← r1.length]
    show 2 ≤ sizeLine
    decide
  refine wpAny_call (PySem.HandSPX.call_own F.excBase_Exception (fun _ => rfl) (I1.kIn _ _ hC) (PySem.W.looks_findIn I1.kIn iC) (fun self => PySem.W.bind_fn I1.kIn self tI) few
    (codeAny_mono (F1.run _ X.stack _ _ ⟨Value.ref (hp.objs.size + 1) :: us, []⟩ (Value.ref (hp.objs.size + 1) :: us) _ _ (fun _ _ _ => False) (hr.make CF us []) (I2.env0.make CF us []) bnd r2 sp0) fun r s' back => ?_))
  cases r with
  | error er => exact hx pins σ _ _ er s' I2 back
  | ok fl =>
    cases fl with
    | ret w =>
      obtain ⟨v0, H2, os2, bare2, un2, hok2, rv, ev, d, fs, ea, ed, hd1, q2⟩ := back
      subst ev
      obtain ⟨h2', g2, d2, t2, os'⟩ := s'
      exact ⟨rv, mk_end (raises_own T.be T.ty) I1 up1 keep un2 hok2 os2 bare2 ea ed hd1 q2⟩
    | next => exact False.elim back
    | brk => exact False.elim back
    | cont => exact False.elim back
end
end FHG
end
section
set_option linter.all false
set_option Elab.async false
set_option maxRecDepth 100000
set_option maxHeartbeats 4000000
namespace FHG
open PySem PySem.Spec PyProof.Rows L2 FH

abbrev FnP (K : PySem.W.Frag) (x qual : Str) (st : Stmt) (f : Addr) (fd : FuncData) : Prop := FunD K x qual (defArgs st) (defBody st) (defScope st) [] [] f fd
abbrev sBegin : Stmt := inClass (top 92) 1
theorem scFi : FnScope ["self", "cause", "value"] ["self", "cause", "value"] (defScope sFi) := ⟨rfl, rfl, rfl, by decide +kernel, rfl, by decide +kernel, by decide +kernel⟩
theorem scMi : FnScope ["self"] ["self"] (defScope sMi) := ⟨rfl, rfl, rfl, by decide +kernel, rfl, by decide +kernel, by decide +kernel⟩
theorem scBegin : FnScope ["self"] ["self"] (defScope sBegin) := ⟨rfl, rfl, rfl, by decide +kernel, rfl, by decide +kernel, by decide +kernel⟩
section
variable {P : Program} {w : World} {K : PySem.W.Frag} {mg : Str → Option Value} {base : Heap} {C CF f : Addr} {fd : FuncData}
/-- Fault.__init__ -/
theorem fi_ok (F : FnP K "__init__" "Fault.__init__" sFi f fd) (T : FxC K CF) (hm : mg "Exception" = none) (vV : PySem.W.findCls K (.type "Exception") (.type "type") "__init__" = some (.val (.builtin "Exception.__init__"))) :
    FnOk P w K mg base (L2.CX P w) 1 f fd ["self", "cause", "value"] (spFi CF) := by
  refine F.ok scFi (fun vs H Q E h => ?_) (fun cdv A outer s H vs Q E hr h => ⟨_, pss_cons (ps_expr (pe_finit rfl hm vV (pv 0) rfl)) (pss_cons (ps_fx (pv 0) (pv 1) rfl) (pss_one (ps_fx (pv 0) (pv 2) rfl))), ?_⟩)
  · obtain ⟨x, u, v, rfl, _⟩ := h
    rfl
  · obtain ⟨x, u, v, rfl, hx, k⟩ := h
    refine ⟨_, rfl, x, CF, rfl, T, hx, ?_⟩
    refine ⟨_, rfl, _, rfl, x, CF, rfl, T, T.nc, .inl ⟨hx, fun d hd ne => ?_⟩⟩
    refine ⟨_, rfl, _, rfl, x, CF, rfl, T, T.nv, .inr ⟨d, [("cause", u)], upd_same, ?_, Nat.le_of_ble_eq_true rfl, ?_⟩⟩
    · rw [upd_ne ne, upd_same]
    · exact k d hd ne

/-! ### begin -/
def Keep (a : Addr) (H H' : Hp) : Prop := ∀ b o, H b = some o → b ≠ a → H' b = some o
theorem Keep.trans {a : Addr} {H H1 H2 : Hp} (u : Keep a H H1) (v : Keep a H1 H2) : Keep a H H2 := fun b o e n => v b o (u b o e n) n
theorem Keep.none {a : Addr} {H H1 : Hp} (u : Keep a H H1) {p : Addr} (e : H1 p = Option.none) (n : p ≠ a) : H p = Option.none := by
  cases q : H p with
  | none => rfl
  | some o =>
    rw [u p o q n] at e
    cases e
def zeros (n : Nat) : List Int := List.replicate n 0
def m0 (g : Nat) : M := ⟨zeros 32, zeros 32, 0, 0, 0, [], zeros 4096, 18446744073709551615, 0, g⟩
def spBegin (C : Addr) : Sp := fun vs H Q _ => ∃ (a dx : Addr) (fs : List (Str × V)), vs = [.ref a] ∧ H a = some (.ins C dx fs) ∧ (fs = [] ∨ ∃ P m, fs = mF P m) ∧
  ∀ (H' : Hp) (ax af am aw : Addr), H ax = none → H af = none → H am = none → H aw = none → (∀ g, MAt C a H' ⟨dx, ax, af, am, aw, g⟩ (m0 g)) → Keep a H H' → Q .non H'
theorem rep_z (n : Nat) : (List.replicate n ([.int 0] : List V)).flatten = vI (zeros n) := by
  induction n with
  | zero => rfl
  | succ n ih =>
    rw [List.replicate_succ, List.flatten_cons, ih]
    rfl
/-- self.f = [0] * n -/
theorem rep_set {C a dx : Addr} {fs : List (Str × V)} {tn : TE} {n : Nat} {fl : Str} {D : Ends} {σ : L2.St} {H : Hp} (cl : Cls K C) (na : NoAttr K C fl) (ha : H a = some (.ins C dx fs)) (hl : fs.length < 1000) (hs : σ[0]? = some (some (.ref a))) (hz : n ≤ 100000)
    (htn : ∀ (H : Hp) (Q : VK), Q (.int n) H → tn σ H Q) (k : ∀ (H' : Hp) (p : Addr), H' a = some (.ins C dx (putF fl (.ref p) fs)) → H' p = some (.lst (vI (zeros n))) → p ≠ a → H p = none → Keep a H H' → D.nx σ H') :
    sFld K (tVar 0) (tOp rRep (tLst (tCons (tC (.int 0)) tNil)) tn) fl D σ H := by
  refine ⟨by show 1 ≤ sizeLine; decide, fun l hl0 => htn _ _ ⟨l, n, [.int 0], rfl, rfl, upd_same, by omega, by omega, ?_, fun p hp => ?_⟩⟩
  · rw [sizeLine_eq]
    show 1 * _ ≤ _
    omega
  have la : l ≠ a := fun z => by rw [z, ha] at hl0; cases hl0
  have pl : p ≠ l := fun z => by rw [z, upd_same] at hp; cases hp
  rw [upd_ne pl] at hp
  have pa : p ≠ a := fun z => by rw [z, ha] at hp; cases hp
  rw [show ((n : Int)).toNat = n from Int.toNat_natCast n, rep_z]
  refine ⟨_, hs, a, C, dx, fs, rfl, ?_, cl, na, hl, ?_⟩
  · rw [upd_ne pa.symm, upd_ne la.symm]
    exact ha
  · refine k _ p upd_same ?_ pa hp fun b o e nb => ?_
    · rw [upd_ne pa, upd_same]
    · rw [upd_ne nb, upd_ne (fun z => by rw [z, hp] at e; cases e), upd_ne (fun z => by rw [z, hl0] at e; cases e)]
      exact e
/-- self.f = an int -/
theorem int_set {C a dx : Addr} {fs : List (Str × V)} {tn : TE} {n : Int} {fl : Str} {D : Ends} {σ : L2.St} {H : Hp} (cl : Cls K C) (na : NoAttr K C fl) (ha : H a = some (.ins C dx fs)) (hl : fs.length < 1000) (hs : σ[0]? = some (some (.ref a)))
    (htn : ∀ (H : Hp) (Q : VK), Q (.int n) H → tn σ H Q) (k : ∀ (H' : Hp), H' a = some (.ins C dx (putF fl (.int n) fs)) → Keep a H H' → D.nx σ H') : sFld K (tVar 0) tn fl D σ H := by
  refine htn _ _ ⟨_, hs, a, C, dx, fs, rfl, ha, cl, na, hl, k _ upd_same fun b o e nb => ?_⟩
  rw [upd_ne nb]
  exact e
/-- self.f = [] -/
theorem nil_set {C a dx : Addr} {fs : List (Str × V)} {fl : Str} {D : Ends} {σ : L2.St} {H : Hp} (cl : Cls K C) (na : NoAttr K C fl) (ha : H a = some (.ins C dx fs)) (hl : fs.length < 1000) (hs : σ[0]? = some (some (.ref a)))
    (k : ∀ (H' : Hp) (p : Addr), H' a = some (.ins C dx (putF fl (.ref p) fs)) → H' p = some (.lst (vI [])) → p ≠ a → H p = none → Keep a H H' → D.nx σ H') : sFld K (tVar 0) (tLst tNil) fl D σ H := by
  refine ⟨Nat.zero_le _, fun p hp => ?_⟩
  have pa : p ≠ a := fun z => by rw [z, ha] at hp; cases hp
  refine ⟨_, hs, a, C, dx, fs, rfl, by rw [upd_ne pa.symm]; exact ha, cl, na, hl, k _ p upd_same ?_ pa hp fun b o e nb => ?_⟩
  · rw [upd_ne pa, upd_same]
    rfl
  · rw [upd_ne nb, upd_ne (fun z => by rw [z, hp] at e; cases e)]
    exact e
theorem begin_ok (F : FnP K "begin" "Machine.begin" sBegin f fd) (cl : Cls K C) (na : ∀ z, z ∈ attrs → NoAttr K C z) (hms : ∃ t, mg "MEMORY_SIZE" = some (.int 4096 t)) :
    FnOk P w K mg base (L2.CX P w) 1 f fd ["self"] (spBegin C) := by
  obtain ⟨tk, hms⟩ := hms
  have n1 := na "x" (by decide +kernel)
  have n2 := na "f" (by decide +kernel)
  have n3 := na "frm" (by decide +kernel)
  have n4 := na "fflags" (by decide +kernel)
  have n5 := na "pc" (by decide +kernel)
  have n6 := na "words" (by decide +kernel)
  have n7 := na "memory" (by decide +kernel)
  have n8 := na "cause" (by decide +kernel)
  have n9 := na "value" (by decide +kernel)
  refine F.ok scBegin (fun vs H Q E h => ?_) (fun cdv A outer s H vs Q E hr h => ⟨_,
    pss_cons (ps_fld (pv 0) (pe_op op_rep (pe_lst (pa_cons pe_int pa_nil)) pe_int) rfl)
    (pss_cons (ps_fld (pv 0) (pe_op op_rep (pe_lst (pa_cons pe_int pa_nil)) pe_int) rfl)
    (pss_cons (ps_fld (pv 0) pe_int rfl)
    (pss_cons (ps_fld (pv 0) pe_int rfl)
    (pss_cons (ps_fld (pv 0) pe_int rfl)
    (pss_cons (ps_fld (pv 0) (pe_lst pa_nil) rfl)
    (pss_cons (ps_fld (pv 0) (pe_op op_rep (pe_lst (pa_cons pe_int pa_nil)) (pe_glob (v := .int 4096) rfl hms ⟨_, rfl⟩)) rfl)
    (pss_cons (ps_fld (pv 0) (pe_op op_sub (pe_op op_pow pe_int pe_int) pe_int) rfl)
    (pss_one (ps_fld (pv 0) pe_int rfl))))))))), ?_⟩)
  · obtain ⟨a, dx, fs, rfl, _⟩ := h
    rfl
  · obtain ⟨a, dx, fs, rfl, ha, hfs, k⟩ := h
    have len : fs.length < 900 := by
      rcases hfs with rfl | ⟨P, m, rfl⟩
      · exact Nat.zero_lt_succ _
      · exact Nat.lt_of_lt_of_le (show 9 < 10 by decide) (by decide)
    refine rep_set (n := 32) cl n1 ha (by omega) rfl (by decide) (fun _ _ q => q) fun H1 ax a1 x1 nx1 f1 k1 => ?_
    have l1 := length_putF "x" (.ref ax) fs
    refine rep_set (n := 32) cl n2 a1 (by omega) rfl (by decide) (fun _ _ q => q) fun H2 af a2 x2 nx2 f2 k2 => ?_
    have l2 := length_putF "f" (.ref af) (putF "x" (.ref ax) fs)
    refine int_set (n := 0) (tn := tC (.int 0)) cl n3 a2 (by omega) rfl (fun _ _ q => q) fun H3 a3 k3 => ?_
    have l3 := length_putF "frm" (.int 0) (putF "f" (.ref af) (putF "x" (.ref ax) fs))
    refine int_set (n := 0) (tn := tC (.int 0)) cl n4 a3 (by omega) rfl (fun _ _ q => q) fun H4 a4 k4 => ?_
    have l4 := length_putF "fflags" (.int 0) (putF "frm" (.int 0) (putF "f" (.ref af) (putF "x" (.ref ax) fs)))
    refine int_set (n := 0) (tn := tC (.int 0)) cl n5 a4 (by omega) rfl (fun _ _ q => q) fun H5 a5 k5 => ?_
    have l5 := length_putF "pc" (.int 0) (putF "fflags" (.int 0) (putF "frm" (.int 0) (putF "f" (.ref af) (putF "x" (.ref ax) fs))))
    refine nil_set cl n6 a5 (by omega) rfl fun H6 aw a6 x6 nx6 f6 k6 => ?_
    have l6 := length_putF "words" (.ref aw) (putF "pc" (.int 0) (putF "fflags" (.int 0) (putF "frm" (.int 0) (putF "f" (.ref af) (putF "x" (.ref ax) fs)))))
    refine rep_set (n := 4096) cl n7 a6 (by omega) rfl (by decide) (fun _ _ q => q) fun H7 am a7 x7 nx7 f7 k7 => ?_
    have l7 := length_putF "memory" (.ref am) (putF "words" (.ref aw) (putF "pc" (.int 0) (putF "fflags" (.int 0) (putF "frm" (.int 0) (putF "f" (.ref af) (putF "x" (.ref ax) fs))))))
    refine int_set (n := 18446744073709551615) (tn := tOp (rI0 fun i j => .int (i - j)) (tOp (rI CPow fun i j => .int (i ^ j.toNat)) (tC (.int 2)) (tC (.int 64))) (tC (.int 1))) cl n8 a7 (by omega) rfl (fun _ _ q => ⟨_, _, rfl, rfl, ⟨by decide, by decide, by decide⟩, _, _, rfl, rfl, q⟩) fun H8 a8 k8 => ?_
    have l8 := length_putF "cause" (.int 18446744073709551615) (putF "memory" (.ref am) (putF "words" (.ref aw) (putF "pc" (.int 0) (putF "fflags" (.int 0) (putF "frm" (.int 0) (putF "f" (.ref af) (putF "x" (.ref ax) fs)))))))
    refine int_set (n := 0) (tn := tC (.int 0)) cl n9 a8 (by omega) rfl (fun _ _ q => q) fun H9 a9 k9 => ?_
    have k26 : Keep a H1 H6 := ((((k2.trans k3).trans k4).trans k5).trans k6)
    have k25 : Keep a H1 H5 := ((k2.trans k3).trans k4).trans k5
    have k36 : Keep a H2 H6 := (((k3.trans k4).trans k5).trans k6)
    have k35 : Keep a H2 H5 := ((k3.trans k4).trans k5)
    have k79 : Keep a H6 H9 := (k7.trans k8).trans k9
    have k89 : Keep a H7 H9 := k8.trans k9
    have xf : ax ≠ af := ne_of_none x1 f2
    have xw : ax ≠ aw := ne_of_none ((k2.trans k35) _ _ x1 nx1) f6
    have fw : af ≠ aw := ne_of_none (k35 _ _ x2 nx2) f6
    have xm : ax ≠ am := ne_of_none (k26 _ _ x1 nx1) f7
    have fm : af ≠ am := ne_of_none (k36 _ _ x2 nx2) f7
    have wm : aw ≠ am := ne_of_none x6 f7
    have g1 : H af = none := k1.none f2 nx2
    have g2 : H am = none := (k1.trans k26).none f7 nx7
    refine k H9 ax af am aw f1 g1 g2 ((k1.trans k25).none f6 nx6) (fun g => ⟨?_, k79 _ _ (k26 _ _ x1 nx1) nx1, k79 _ _ (k36 _ _ x2 nx2) nx2, k89 _ _ x7 nx7, .inl (k79 _ _ x6 nx6), xf, xm, fm, fun z => ?_, rfl⟩) ((k1.trans k26).trans k79)
    · rw [a9]
      rcases hfs with rfl | ⟨P, m, rfl⟩ <;> rfl
    · rcases z with z | z | z
      · exact xw z.symm
      · exact fw z.symm
      · exact wm z
/-- Machine.__init__ -/
theorem init_ok {fB : Addr} {fdB : FuncData} (F : FnP K "__init__" "Machine.__init__" sMi f fd) (G : FnOk P w K mg base (L2.CX P w) 1 fB fdB ["self"] (spBegin C)) (cl : Cls K C) (mB : Meth K C "begin" fB) (bB : Binds K fdB ["self"] []) :
    FnOk P w K mg base (L2.CX P w) 2 f fd ["self"] (fun vs H Q E => spBegin C vs H Q E ∧ ∃ a dx, vs = [.ref a] ∧ H a = some (.ins C dx [])) := by
  refine F.ok scMi (fun vs H Q E h => ?_) (fun cdv A outer s H vs Q E hr h => ⟨_, pss_one (ps_expr (pe_meth0 (pv 0) cl mB G hr bB .nil passL)), ?_⟩)
  · obtain ⟨_, a, dx, rfl, _⟩ := h
    rfl
  · obtain ⟨h, a, dx, rfl, ha⟩ := h
    refine ⟨_, rfl, a, dx, [], rfl, ha, rfl, ?_⟩
    obtain ⟨a', dx', fs, e, h2, h3, k⟩ := h
    exact ⟨a', dx', fs, e, h2, h3, k⟩
/-- begin, as the table has it -/
theorem begin_sp {d : Def} (hp : ∀ args m, d.pre args m → args = [.mach] ∧ d.fn args m = (.ok .non, m0 (m.gen + 1))) (F : FnOk P w K mg base (L2.CX P w) 1 f fd ["self"] (spBegin C)) : FnOk P w K mg base (L2.CX P w) 1 f fd ["self"] (spG K C CF d) := by
  refine F.imp fun vs H Q E h => ?_
  obtain ⟨a, args, m, P0, r, ma, pre, kO, kF⟩ := h
  obtain ⟨rfl, e⟩ := hp args m pre
  obtain ⟨u, r0, rfl, r1, r2⟩ := r
  have e1 : u = .ref a := r1
  have e2 : r0 = [] := r2
  subst e1 e2
  refine ⟨a, P0.dx, _, rfl, ma.ob, .inr ⟨P0, m, rfl⟩, fun H' ax af am aw h1 h2 h3 hw h4 kp => ?_⟩
  have ma' := h4 (m.gen + 1)
  refine kO .non _ e .non H' ⟨P0.dx, ax, af, am, aw, m.gen + 1⟩ ⟨fun b o q n _ => kp b o q n, fun b z => .inr ?_, fun b hb => ?_, .inr (.inr hw), ?_, fun z => ?_⟩ ma' rfl
  · rcases z with z | z | z
    · rw [z]
      exact h1
    · rw [z]
      exact h2
    · rw [z]
      exact h3
  · by_cases z : b = a
    · rw [z]
      exact ma'.thr
    · cases e : H b with
      | none => exact absurd e hb
      | some o =>
        rw [kp b o e z]
        exact fun z => nomatch z
  · show P0.gen ≤ m.gen + 1
    rw [ma.gn]
    omega
  · have z2 : m.gen + 1 = P0.gen := z
    rw [ma.gn] at z2
    omega
end
end FHG
end
section
set_option linter.all false
set_option Elab.async false
set_option maxRecDepth 100000
set_option maxHeartbeats 4000000
namespace FHG
open PySem PySem.Spec PyProof.Rows L2 FH

/-! ### execute_fused -/
abbrev sFused : Stmt := top 134
abbrev nFused : List Str := ["machine", "word", "form", "mode", "operands", "place"]
theorem scFused : FnScope nFused ["machine", "word"] (defScope sFused) := ⟨rfl, rfl, rfl, by decide +kernel, rfl, by decide +kernel, by decide +kernel⟩
def plF : Exs := .cons (.call 77 (.cons (.var 1) .nil)) (.cons (.call 78 (.cons (.var 1) .nil)) (.cons (.call 82 (.cons (.var 1) .nil)) .nil))
def fa1 : FH.St := .set 2 (.call 94 (.cons (.var 1) .nil))
def fa2 : FH.St := .set 3 (.call 95 (.cons (.var 0) (.cons (.var 1) .nil)))
def fu2 : FH.Sts := .cons (.drop (.call 96 (.cons (.var 0) (.cons (.var 1) (.cons (.call 93 (.cons (.var 2) (.cons (.bin .add (.int 5) (.bin .fdiv (.bin .sub (.call 74 (.cons (.var 1) .nil)) (.int 67)) (.int 4))) (.cons (.var 3) (.cons (.var 4) .nil))))) .nil))))) .nil
/-- operands = [machine.operand(form, place) for place in (..)] -/
def compQ (T : Tab) (F : FQ) (s : FH.Env) (m : M) (Nx : NQ) : Prop := ev T F (.tup plF) s m fun x m1 => onTup x fun ps => ∃ (form : Int) (g : Int → Int), getS s 0 = some .mach ∧ getS s 2 = some (.int form) ∧ (ps.length ≤ 20 ∧ s.length = 6) ∧
  (∀ p ∈ ps, (T.fn 68).pre [.mach, .int form, .int p] m1 ∧ (T.fn 68).fn [.mach, .int form, .int p] m1 = (.ok (.int (g p)), m1)) ∧ Nx (s.set 4 (some (.lst (ps.map g)))) m1
def GoodFused (T : Tab) (d : Def) : Prop := ∀ args m, d.pre args m → args.length = 2 ∧
  ex T (fun i j m' => d.fn args m = (.flt i j, m')) fa1 (senv nFused args) m (fun s0 m0 => ex T (fun i j m' => d.fn args m = (.flt i j, m')) fa2 s0 m0 (fun s1 m1 => compQ T (fun i j m' => d.fn args m = (.flt i j, m')) s1 m1 fun s2 m2 =>
    exs T (fun i j m' => d.fn args m = (.flt i j, m')) fu2 s2 m2 (fun _ m' => d.fn args m = (.ok .non, m')) (fun v m' => d.fn args m = (.ok v, m'))) (fun v m' => d.fn args m = (.ok v, m'))) (fun v m' => d.fn args m = (.ok v, m'))
theorem getS_at {s : FH.Env} {i : Nat} {v : PV} (e : getS s i = some v) : s[i]? = some (some v) := by
  unfold getS at e
  split at e <;> first | (cases e; assumption) | cases e
theorem wipe_get {σ : L2.St} {i j : Nat} {v : V} (h : σ[i]? = some (some v)) (n : i ≠ j) : (wipe σ [j])[i]? = some (some v) := by
  show (σ.set j none)[i]? = _
  rw [List.getElem?_set_ne (Ne.symm n)]
  exact h
section
variable {P : Program} {w : World} {K : PySem.W.Frag} {mg : Str → Option Value} {base : Heap} {C CF f : Addr} {fd : FuncData} {T : Tab}
/-- the reading of the comprehension -/
theorem comp_read {g : Gh} {D : Ends} {s : FH.Env} {m : M} {P1 : Pt} {σ : L2.St} {H : Hp} {Nx : NQ} (no : ∀ P m, (mF P m).lookup ("operand" : Str) = none) (S : SR K g s m P1 σ H) (q : compQ g.T g.F s m Nx)
    (k : ∀ s2 m2 σ2 H2 P2, Nx s2 m2 → ER K g.a g.Sh H2 P2 s2 σ2 → Step g.a g.Sh H P1 H2 P2 → MAt g.C g.a H2 P2 m2 → D.nx σ2 H2) :
    tAsg (tLc (iTup K (tG K g (.tup plF))) (gName 5) tYes (tMeth g.C "operand" (spG K g.C g.CF (g.T.fn 68)) [] E0 (tVar 0) (tCons (tVar 2) (tCons (tVar 5) tNil))) [5]) (gName 4) D σ H := by
  refine one S q fun u v m1 H1 P2 st ma r q => ?_
  cases u <;> first | exact q.elim | skip
  rename_i ps
  obtain ⟨q0, e0, hq⟩ := r
  obtain ⟨form, gv, g0, g2, ⟨hlen, hsl⟩, hop, hN⟩ := q
  have er := S.er.step st S.ma
  obtain ⟨u0, s0, r0⟩ := er.at_ 0 _ (getS_at g0)
  obtain ⟨u2, s2, r2⟩ := er.at_ 2 _ (getS_at g2)
  have r0 : u0 = .ref g.a := r0
  have r2 : u2 = .int form := r2
  subst r0 r2
  refine ⟨q0, e0, ⟨_, hq⟩, fun L hL => ?_⟩
  have hLS : g.Sh L := S.fresh st hL
  have La : L ≠ g.a := fun z => by rw [z] at hL; exact ma.thr hL
  refine lc_tup (xs := vI ps) (fun i H' => ∃ P', Step g.a g.Sh H1 P2 H' P' ∧ MAt g.C g.a H' P' m1 ∧ H' L = some (.lst (vI ((ps.take i).map gv))) ∧ ¬ own P' L ∧ P'.aw ≠ L) ?_ (fun i H' _ ⟨P', st', ma', _⟩ => st'.sqT ma hq) ?_ ?_
  · refine ⟨P2, .new ma.thr hL, ma.new hL, upd_same, fun z => ?_, fun z => ?_⟩
    · rcases z with z | z | z
      · rw [z, ma.hx] at hL; cases hL
      · rw [z, ma.hf] at hL; cases hL
      · rw [z, ma.hm] at hL; cases hL
    · rcases ma.hw with e | ⟨o, e⟩
      · rw [z, hL] at e; cases e
      · rw [z, hL] at e; cases e
  · intro i y H' hi ⟨P', st', ma', hD, nD, wD⟩
    have hl : i < ps.length := by
      have := (List.getElem?_eq_some_iff.mp hi).1
      rw [List.length_map] at this
      exact this
    have ey : y = .int ps[i] := by
      rw [List.getElem?_map, List.getElem?_eq_getElem hl] at hi
      exact (Option.some.inj hi).symm
    subst ey
    obtain ⟨pre, eq⟩ := hop ps[i] (List.getElem_mem hl)
    have i5 : 5 < σ.length := by rw [← er.len, hsl]; decide
    refine ⟨?_, ?_⟩
    · show wipe ((wipe σ [5]).set 5 (some (.int ps[i]))) [5] = wipe σ [5]
      show ((σ.set 5 none).set 5 (some (.int ps[i]))).set 5 none = σ.set 5 none
      rw [List.set_set, List.set_set]
    have w0 : ((wipe σ [5]).set 5 (some (V.int ps[i])))[0]? = some (some (.ref g.a)) := by
      rw [List.getElem?_set_ne (by decide)]
      exact wipe_get s0 (by decide)
    have w2 : ((wipe σ [5]).set 5 (some (V.int ps[i])))[2]? = some (some (.int form)) := by
      rw [List.getElem?_set_ne (by decide)]
      exact wipe_get s2 (by decide)
    have w5 : ((wipe σ [5]).set 5 (some (V.int ps[i])))[5]? = some (some (.int ps[i])) := by
      show ((σ.set 5 none).set 5 (some (V.int ps[i])))[5]? = _
      rw [List.set_set, List.getElem?_set_self i5]
    unfold tYes
    dsimp only
    rw [if_pos rfl]
    refine ⟨_, w0, g.a, P'.dx, _, rfl, ma'.ob, no _ _, _, w2, _, w5, ?_⟩
    refine ⟨g.a, [.mach, .int form, .int ps[i]], m1, P', ⟨_, _, rfl, rfl, _, _, rfl, rfl, _, _, rfl, rfl, rfl⟩, ma', pre, fun pv m' e v H4 P4 st4 ma4 r4 => ?_, fun c w' m' e => ?_⟩
    · rw [eq] at e
      cases e
      have ev : v = .int (gv ps[i]) := r4
      subst ev
      have notL : ∀ p, ShA [.mach, .int form, .int ps[i]] [V.ref g.a, .int form, .int ps[i]] H' p → p ≠ L := fun p hp z => by
        rcases hp with hp | hp
        · exact hp
        · rw [z, hD] at hp
          cases hp
      have D4 : H4 L = some (.lst (vI ((ps.take i).map gv))) := st4.keep _ _ hD La nD
      have n4 : ¬ own P4 L := fun z => by
        rcases st4.part L z with z | z
        · exact nD z
        · rw [hD] at z; cases z
      have a4 : P4.aw ≠ L := by
        rcases st4.aw with z | z
        · rw [z]
          exact wD
        · exact notL _ z
      have sh4 : Step g.a g.Sh H' P' H4 P4 := st4.mono fun p hp => by
        rcases hp with hp | hp
        · exact hp.elim
        · exact S.fresh (st.trans st') hp
      refine ⟨_, D4, ?_, P4, ?_, ?_, ?_, n4, a4⟩
      · rw [List.length_map, List.length_map, List.length_take]
        exact Nat.lt_of_le_of_lt (Nat.le_trans (Nat.min_le_right _ _) hlen) (by decide)
      · have up := st'.trans sh4
        refine ⟨fun b o e n1 n2 => ?_, up.part, fun b hb => ?_, up.aw, up.le, up.same⟩
        · rw [upd_ne (fun z => by rw [z, hL] at e; cases e)]
          exact up.keep b o e n1 n2
        · by_cases z : b = L
          · rw [z, upd_same]
            exact fun z => nomatch z
          · rw [upd_ne z]
            exact up.dom b hb
      · have k4 : ∀ b o, H4 b = some o → b ≠ L → upd H4 L (.lst (vI ((ps.take i).map gv) ++ [.int (gv ps[i])])) b = some o := fun b o e n => by
          rw [upd_ne n]
          exact e
        have nx : P4.ax ≠ L := fun z => n4 (.inl z.symm)
        have nf : P4.af ≠ L := fun z => n4 (.inr (.inl z.symm))
        have nm' : P4.am ≠ L := fun z => n4 (.inr (.inr z.symm))
        refine ⟨k4 _ _ ma4.ob La.symm, k4 _ _ ma4.hx nx, k4 _ _ ma4.hf nf, k4 _ _ ma4.hm nm', ?_, ma4.xf, ma4.xm, ma4.fm, ma4.wo, ma4.gn⟩
        rcases ma4.hw with e | ⟨o, e⟩
        · exact .inl (k4 _ _ e a4)
        · exact .inr ⟨o, k4 _ _ e a4⟩
      · rw [upd_same]
        have et : ps.take (i + 1) = ps.take i ++ [ps[i]] := by
          rw [List.take_add_one, List.getElem?_eq_getElem hl]
          rfl
        have e2 : vI ((ps.take i ++ [ps[i]]).map gv) = vI ((ps.take i).map gv) ++ [.int (gv ps[i])] := by
          rw [List.map_append]
          exact List.map_append
        rw [et, e2]
    · rw [eq] at e
      cases e
  · intro H' ⟨P', st', ma', hD, nD, _⟩
    rw [List.length_map, List.take_length] at hD
    exact k _ m1 _ H' P' hN ((er.step st' ma).set (v := .lst (ps.map gv)) (x := .ref L) ⟨L, rfl, .inl hD, nD, hLS⟩ 4) (st.trans st') ma'
theorem fused_ok {nm : Nm} (W : Wd P w K mg C CF T nm) {k : Nat} (L : Below P w K mg base C CF T nm k 98) (hk : 3 ≤ k) (F : FnP K "execute_fused" "execute_fused" sFused f fd) {d : Def} (g : GoodFused T d) (hmt : nm.mt 68 = true) (hfn : nm.fn[68]? = some ("operand" : Str))
    (c1 : chS nFused (defScope sFused) nm 98 fa1 ((defBody sFused).getD 0 (.Pass ⟨0, 0, 0, 0⟩)) = true) (c2 : chS nFused (defScope sFused) nm 98 fa2 ((defBody sFused).getD 1 (.Pass ⟨0, 0, 0, 0⟩)) = true) (c3 : ch nFused (defScope sFused) nm 98 (.tup plF) (match (defBody sFused).getD 2 (.Pass ⟨0, 0, 0, 0⟩) with
      | .Assign _ (.ListComp _ (⟨_, it, _, _⟩ :: _) _ _) _ => it
      | _ => .Name "x" ⟨0, 0, 0, 0⟩) = true) (c4 : chSs nFused (defScope sFused) nm 98 fu2 ((defBody sFused).drop 3) = true) :
    FnOk P w K mg base (L2.CX P w) (k + 1) f fd ["machine", "word"] (spG K C CF d) := by
  refine F.ok scFused (fun vs H Q E h => ?_) (fun cdv A outer s H vs Q E hr h => ?_)
  · obtain ⟨a, args, m, P0, r, ma, pre, _⟩ := h
    rw [rls_len r]
    exact (g args m pre).1
  · obtain ⟨a, args, m, P0, r, ma, pre, kO, kF⟩ := h
    have B := bd_of W L hk scFused (qual := "execute_fused") (f := f) (cdv := cdv) (A := A) (outer := outer) (s := s) (H := H) (E := E) (a := a) (P0 := P0) (F := fun i j m' => d.fn args m = (.flt i j, m')) (Sh := ShA args vs H) (hs := fun _ h => .inr h) hr
      fun i j m' x H' P' e st ma' ex => kF i j m' e x H' P' st ma' ex
    obtain ⟨⟨fO, fdO, psO, GO, mO, bO⟩, nO⟩ := L.mt 68 "operand" (by decide) hmt hfn
    have b1 := g_ps B fa1 _ c1
    have b2 := g_ps B fa2 _ c2
    have b3 := g_pe B _ _ c3
    have b4 := g_pss B fu2 _ c4
    refine ⟨_, pss_cons b1 (pss_cons b2 (pss_cons (ps_setLc (i := 4) (own := [("place", 5)]) (g := gName 5) (tt := tYes) rfl scFused.nd rfl rfl (sw_true rfl rfl rfl (by decide +kernel)) (pi_tup b3) (blkOk_by (N := nFused) (sc := defScope sFused) (by decide +kernel))
      (fun _ _ _ _ _ => pg_name (i := 5) scFused.nd rfl (Or.inl rfl)) (fun _ _ _ _ _ => pts_nil) (fun _ _ _ _ _ => pe_meth (pv 0) W.cl mO GO (hr.mono (Nat.le_refl _)) bO .nil passL (pa_cons (pv 2) (pa_cons (pv 5) pa_nil)))) b4)), ?_⟩
    refine ⟨senv nFused args, m, P0, ⟨er_start r, ma, .refl ma.thr⟩, ex_mono fa1 (fun s1 m1 q1 σ1 H1 P1 er1 st1 ma1 => ?_) (fun v m' e u H' P' st ma' rl => kO v m' e u H' P' st ma' rl) (g args m pre).2⟩
    refine ⟨s1, m1, P1, ⟨er1, ma1, st1⟩, ex_mono fa2 (fun s2 m2 q2 σ2 H2 P2 er2 st2 ma2 => ?_) (fun v m' e u H' P' st ma' rl => kO v m' e u H' P' (st1.trans st) ma' rl) q1⟩
    refine comp_read (g := ⟨C, CF, a, H, P0, T, fun i j m' => d.fn args m = (.flt i j, m'), E, ShA args vs H, fun _ h => .inr h⟩) nO ⟨er2, ma2, st1.trans st2⟩ q2 fun s3 m3 σ3 H3 P3 q3 er3 st3 ma3 => ?_
    refine ⟨s3, m3, P3, ⟨er3, ma3, (st1.trans st2).trans st3⟩, exs_mono fu2 (fun s' m' e σ' H' P' er st ma' => ?_) (fun v m' e u H' P' st ma' rl => ?_) q3⟩
    · exact kO .non m' e .non H' P' (((st1.trans st2).trans st3).trans st) ma' rfl
    · exact kO v m' e u H' P' (((st1.trans st2).trans st3).trans st) ma' rl
end
end FHG
end
section
set_option linter.all false
set_option Elab.async false
set_option maxRecDepth 100000
set_option maxHeartbeats 4000000
namespace FHG
open PySem PySem.Spec PyProof.Rows L2 FH

/-! ### run -/
abbrev sRun : Stmt := top 171
abbrev nRun : List Str := ["machine", "steps", "made", "word", "e"]
theorem scRun : FnScope nRun ["machine", "steps"] (defScope sRun) := ⟨rfl, rfl, rfl, by decide +kernel, rfl, by decide +kernel, by decide +kernel⟩
def ru1 : FH.St := .ite (.call 123 (.cons (.var 0) .nil)) (.cons (.ret (.tup (.cons (.con 25) (.cons (.var 2) .nil)))) .nil) .nil
def ru3 : FH.St := .ite (.cmp .eq (.var 3) (.con 23)) (.cons (.ret (.tup (.cons (.con 26) (.cons (.bin .add (.var 2) (.int 1)) .nil)))) .nil) .nil
def ru4 : FH.St := .ret (.tup (.cons (.con 24) (.cons (.var 1) .nil)))
/-- one turn; t: how many were made -/
def turnQ (T : Tab) (t : Nat) (m : M) (Nx : M → Prop) (R : PQ) : Prop := callQ (T.fn 123) (fun _ _ _ => False) [.mach] m fun v m1 => onBl v fun b => if b = true then R (.tup [1, t]) m1 else
  callQ (T.fn 125) (fun c w m2 => R (.tup [3, t]) { m2 with cause := c, value := w }) [.mach] m1 fun v m2 => onInt v fun wd => if wd = 115 then R (.tup [2, t + 1]) m2 else Nx m2
def GoodRun (T : Tab) (d : Def) : Prop := (T.con 25 = 1 ∧ T.con 23 = 115 ∧ T.con 26 = 2 ∧ T.con 24 = 0 ∧ T.con 27 = 3) ∧ ∀ args m, d.pre args m → args.length = 2 ∧ ∃ n : Int, args = [.mach, .int n] ∧ (0 ≤ n ∧ n < 4611686018427387904) ∧ ∃ W : Nat → M → Prop, W 0 m ∧
  ∀ t m', W t m' → if t < n.toNat then turnQ T t m' (W (t + 1)) (fun v m2 => d.fn args m = (.ok v, m2)) else d.fn args m = (.ok (.tup [0, n]), m')
def tHandler (K : PySem.W.Frag) (CF : Addr) (a : Addr) (cls : Value) (d : Option Addr) : TS :=
  tSeq (sFld K (tVar 0) (tXf a cls d CF "cause" (tVar 4)) "cause") (tSeq (sFld K (tVar 0) (tXf a cls d CF "value" (tVar 4)) "value") (tRet (tTup (tCons (tC (.int 3)) (tCons (tVar 2) tNil)))))
section
variable {P : Program} {w : World} {K : PySem.W.Frag} {mg : Str → Option Value} {base : Heap} {C CF f : Addr} {fd : FuncData} {T : Tab}
/-- of the env: machine and an int -/
theorem er_two {a : Addr} {Sh : Addr → Prop} {H : Hp} {P : Pt} {s : FH.Env} {σ : L2.St} (er : ER K a Sh H P s σ) : σ.length = s.length := er.len.symm
theorem handler_read {g : Gh} {D : Ends} {m : M} {P1 : Pt} {σ : L2.St} {H : Hp} {xd x : Addr} {cls : Value} {d : Option Addr} {c v : Int} {t : Int} (cl : Cls K g.C) (na : ∀ f, f ∈ attrs → NoAttr K g.C f) (ma : MAt g.C g.a H P1 m)
    (s0 : σ[0]? = some (some (.ref g.a))) (s2 : σ[2]? = some (some (.int t))) (s4 : σ[4]? = some (some (.ref x))) (hc : cls = .ref g.CF) (hd : d = some xd) (hx : H xd = some (.xd [("value", .int v), ("cause", .int c)]))
    (k : ∀ H' p, Step g.a g.Sh H P1 H' P1 → MAt g.C g.a H' P1 { m with cause := c, value := v } → H' p = some (.tup (vI [3, t])) → D.rt (.ref p) H') : tHandler K g.CF x cls d D σ H := by
  have xa : xd ≠ g.a := ma.ne_a hx fun _ _ _ z => nomatch z
  obtain ⟨m1, st1⟩ := ma.put (Sh := g.Sh) (P' := P1) (m' := m.put .cause c) ⟨rfl, rfl, rfl, rfl, rfl⟩ ⟨rfl, rfl, rfl, rfl⟩ ma.hw ma.wo (.inl rfl)
  have hx1 : upd H g.a (.ins g.C P1.dx (mF P1 (m.put .cause c))) xd = some (.xd [("value", .int v), ("cause", .int c)]) := by
    rw [upd_ne xa]
    exact hx
  obtain ⟨m2, st2⟩ := m1.put (Sh := g.Sh) (P' := P1) (m' := (m.put .cause c).put .value v) ⟨rfl, rfl, rfl, rfl, rfl⟩ ⟨rfl, rfl, rfl, rfl⟩ m1.hw m1.wo (.inl rfl)
  refine ⟨_, s4, rfl, hc, xd, _, .int c, hd, hx, rfl, ?_⟩
  refine ⟨_, s0, g.a, g.C, P1.dx, _, rfl, ma.ob, cl, na _ (fld_attr .cause), by show 9 < 1000; decide, ?_⟩
  have e1 : putF ("cause" : Str) (.int c) (mF P1 m) = mF P1 (m.put .cause c) := put_fld P1 m .cause c
  rw [e1]
  refine ⟨_, s4, rfl, hc, xd, _, .int v, hd, hx1, rfl, ?_⟩
  refine ⟨_, s0, g.a, g.C, P1.dx, _, rfl, m1.ob, cl, na _ (fld_attr .value), by show 9 < 1000; decide, ?_⟩
  have e2 : putF ("value" : Str) (.int v) (mF P1 (m.put .cause c)) = mF P1 ((m.put .cause c).put .value v) := put_fld P1 (m.put .cause c) .value v
  rw [e2]
  refine ⟨_, s2, by show 2 ≤ sizeLine; decide, fun p hp => ?_⟩
  exact k _ p ((st1.trans st2).trans (.new m2.thr hp)) (m2.new hp) upd_same
theorem callQ_F {d : Def} {F F' : FQ} {vs : List PV} {m : M} {Q : PQ} (h : ∀ c w m, F c w m → F' c w m) (q : callQ d F vs m Q) : callQ d F' vs m Q := by
  refine ⟨q.1, ?_⟩
  have q2 := q.2
  split <;> rename_i e <;> rw [e] at q2
  · exact q2
  · exact h _ _ _ q2
theorem ru1_of {F : FQ} {s : FH.Env} {m : M} {t : Int} {N : NQ} {R : PQ} (s0 : getS s 0 = some .mach) (s2 : getS s 2 = some (.int t)) (hc : T.con 25 = 1)
    (q : callQ (T.fn 123) (fun _ _ _ => False) [.mach] m fun v m1 => onBl v fun b => if b = true then R (.tup [1, t]) m1 else N s m1) : ex T F ru1 s m N R := by
  unfold ru1
  simp only [ex, ev, evs, exs, s0, onSome]
  refine callQ_mono (fun v m1 => onBl_mono fun b => ite_mono (fun r => ?_) fun r => r) (callQ_F (fun _ _ _ z => z.elim) q)
  simp only [s2, onSome, onInts, intsOf, Option.map, hc]
  exact r
theorem ru3_of {F : FQ} {s : FH.Env} {m : M} {t wd : Int} {N : NQ} {R : PQ} (s2 : getS s 2 = some (.int t)) (s3 : getS s 3 = some (.int wd)) (h1 : T.con 23 = 115) (h2 : T.con 26 = 2)
    (q : if wd = 115 then R (.tup [2, t + 1]) m else N s m) : ex T F ru3 s m N R := by
  unfold ru3
  simp only [ex, ev, evs, exs, s2, s3, onSome, h1, h2, cp2, onBl, decide_eq_true_eq, op2, onInts, intsOf, Option.map]
  exact q
theorem ru4_of {F : FQ} {s : FH.Env} {m : M} {n : Int} {N : NQ} {R : PQ} (s1 : getS s 1 = some (.int n)) (h1 : T.con 24 = 0) (q : R (.tup [0, n]) m) : ex T F ru4 s m N R := by
  unfold ru4
  simp only [ex, ev, evs, s1, onSome, h1, onInts, intsOf, Option.map]
  exact q
theorem ER.weak {a : Addr} {Sh : Addr → Prop} {H : Hp} {P : Pt} {s s' : FH.Env} {σ : L2.St} (er : ER K a Sh H P s σ) (hl : s'.length = s.length) (h : ∀ (i : Nat) (v : PV), s'[i]? = some (some v) → s[i]? = some (some v)) : ER K a Sh H P s' σ :=
  ⟨hl.trans er.len, fun i v e => er.at_ i v (h i v e)⟩
theorem run_ok {nm : Nm} (W : Wd P w K mg C CF T nm) {k : Nat} (L : Below P w K mg base C CF T nm k 126) (hk : 3 ≤ k) (F : FnP K "run" "run" sRun f fd) {d : Def} (g : GoodRun T d) (h123 : nm.mt 123 = false) (h125 : nm.mt 125 = false) (f125 : nm.fn[125]? = some ("step" : Str))
    (gF : mg "Fault" = some (.ref CF)) (gB : ∃ t, mg "BY_FAULT" = some (.int 3 t)) (xf : XfC K CF) (T0 : FxC K CF) (te : PySem.W.exmOne K (.ref CF) (.ref CF) = some true)
    (c1 : chS nRun (defScope sRun) nm 126 ru1 (match (defBody sRun).getD 0 (.Pass ⟨0, 0, 0, 0⟩) with
      | .For _ _ (b :: _) _ _ => b
      | _ => .Pass ⟨0, 0, 0, 0⟩) = true) (c3 : chS nRun (defScope sRun) nm 126 ru3 (match (defBody sRun).getD 0 (.Pass ⟨0, 0, 0, 0⟩) with
      | .For _ _ (_ :: _ :: b :: _) _ _ => b
      | _ => .Pass ⟨0, 0, 0, 0⟩) = true) (c4 : chS nRun (defScope sRun) nm 126 ru4 ((defBody sRun).getD 1 (.Pass ⟨0, 0, 0, 0⟩)) = true) :
    FnOk P w K mg base (L2.CX P w) (k + 1) f fd ["machine", "steps"] (spG K C CF d) := by
  obtain ⟨tkB, gB⟩ := gB
  obtain ⟨gc, g⟩ := g
  refine F.ok scRun (fun vs H Q E h => ?_) (fun cdv A outer s H vs Q E hr h => ?_)
  · obtain ⟨a, args, m, P0, r, ma, pre, _⟩ := h
    rw [rls_len r]
    exact (g args m pre).1
  · obtain ⟨a, args, m, P0, r, ma, pre, kO, kF⟩ := h
    have B := bd_of W L hk scRun (qual := "run") (f := f) (cdv := cdv) (A := A) (outer := outer) (s := s) (H := H) (E := E) (a := a) (P0 := P0) (F := fun i j m' => d.fn args m = (.flt i j, m')) (Sh := ShA args vs H) (hs := fun _ h => .inr h) hr
      fun i j m' x H' P' e st ma' ex => kF i j m' e x H' P' st ma' ex
    obtain ⟨⟨fS, fdS, psS, GS, mS, kpS, bS⟩⟩ := L.fn 125 "step" (by decide) h125 f125
    have b1 := g_ps B ru1 _ c1
    have b3 := g_ps B ru3 _ c3
    have b4 := g_ps B ru4 _ c4
    refine ⟨_, pss_cons (ps_for (passes_of rfl) rfl (pi_range1 rfl (W.blt _ (by decide +kernel)) (pa_cons (pv 1) pa_nil)) (pg_name (i := 2) scRun.nd rfl (Or.inl rfl))
      (pss_cons b1 (pss_cons (ps_try_as (i := 4) (c := .ref CF) (tb := fun W => tAsg (tCallS (spG K C CF (T.fn 125)) (WE W) (tCons (tVar 0) tNil)) (gName 3)) (ts := tHandler K CF) (Wout := fun _ _ _ _ => False) rfl rfl scRun.nd rfl rfl ⟨rfl, by decide, Or.inl gF⟩ takes0
        (fun W pn xe tk _ => pss_one (ps_set (i := 3) scRun.nd rfl (Or.inl rfl) (by exact (pe_callS GS (hr.mono (Nat.le_refl _)) rfl mS kpS bS (fun σ => passAt tk σ) (by exact (pa_cons (pv 0) pa_nil))))))
        (fun a oe cls d pn hz hf => pss_cons (ps_fld (pv 0) (by exact (pe_xf xf T0.nc hz hf (pv 4))) rfl) (pss_cons (ps_fld (pv 0) (by exact (pe_xf xf T0.nv hz hf (pv 4))) rfl) (pss_one (ps_ret (pe_tup (pa_cons (pe_glob (v := .int 3) rfl gB ⟨_, rfl⟩) (pa_cons (pv 2) pa_nil)))))))) (pss_one b3)))) (pss_one b4), ?_⟩
    obtain ⟨hl, n, rfl, hn, W0, w0, turn⟩ := g args m pre
    have er0 := er_start (N := nRun) r
    have slot0 : ∀ {σ' : L2.St} {H' : Hp} {P' : Pt} {s' : FH.Env}, ER K a (ShA [.mach, .int n] vs H) H' P' s' σ' → s'[0]? = some (some PV.mach) → σ'[0]? = some (some (.ref a)) := fun er e => by
      obtain ⟨u, e1, r1⟩ := er.at_ 0 _ e
      rw [e1, show u = V.ref a from r1]
    have slotI : ∀ {σ' : L2.St} {H' : Hp} {P' : Pt} {s' : FH.Env} {j : Nat} {z : Int}, ER K a (ShA [.mach, .int n] vs H) H' P' s' σ' → s'[j]? = some (some (PV.int z)) → σ'[j]? = some (some (.int z)) := fun er e => by
      obtain ⟨u, e1, r1⟩ := er.at_ _ _ e
      rw [e1, show u = V.int _ from r1]
    refine ⟨_, slotI er0 rfl, n, rfl, by have := hn.1; omega, by have := hn.2; omega, ?_⟩
    refine for_range (fun i σ' H' => ∃ m' P', ER K a (ShA [.mach, .int n] vs H) H' P' (senv nRun [.mach, .int n]) σ' ∧ Step a (ShA [.mach, .int n] vs H) H P0 H' P' ∧ MAt C a H' P' m' ∧ W0 i m') ⟨m, P0, er0, .refl ma.thr, ma, w0⟩ (fun i σ' H' hi ⟨m', P', er, st, ma', w1⟩ => ?_) (fun σ' H' ⟨m', P', er, st, ma', w1⟩ => ?_)
    · have q := turn i m' w1
      rw [if_pos hi] at q
      rw [show (0 : Int) + (i : Int) = (i : Int) from Int.zero_add _]
      have er1 := er.set (v := .int (i : Int)) (x := .int (i : Int)) rfl 2
      refine ⟨(senv nRun [.mach, .int n]).set 2 (some (.int i)), m', P', ⟨er1, ma', st⟩, ru1_of rfl rfl gc.1 (callQ_mono (fun v m1 => onBl_mono fun b => ite_mono (fun h u H2 P2 st2 ma2 rl2 => kO _ _ h u H2 P2 (st.trans st2) ma2 rl2) (fun h σ2 H2 P2 er2 st2 ma2 => ?_)) q)⟩
      refine ⟨_, slot0 er2 rfl, ?_⟩
      refine ⟨a, [.mach], m1, P2, ⟨_, _, rfl, rfl, rfl⟩, ma2, h.1, fun pv m2 e u H3 P3 st3 ma3 r3 => ?_, fun c v m2 e x H3 P3 st3 ma3 ex => ?_⟩
      · have h2 := h.2
        rw [e] at h2
        have st3' : Step a (ShA [.mach, .int n] vs H) H2 P2 H3 P3 := st3.mono fun p hp => by
          rcases hp with hp | hp
          · exact hp.elim
          · refine .inr ?_
            cases q : H p with
            | none => rfl
            | some o => exact absurd hp ((st.trans st2).dom p (by rw [q]; exact fun z => nomatch z))
        cases pv <;> first | exact h2.elim | skip
        rename_i wd
        have eu : u = .int wd := r3
        subst eu
        have er3 := (er2.step st3' ma2).set (v := .int wd) (x := .int wd) rfl 3
        refine ⟨_, m2, P3, ⟨er3, ma3, (st.trans st2).trans st3'⟩, ru3_of (t := (i : Int)) (wd := wd) rfl rfl gc.2.1 gc.2.2.1 ?_⟩
        have h3 : if wd = 115 then d.fn [.mach, .int n] m = (.ok (.tup [2, (i : Int) + 1]), m2) else W0 (i + 1) m2 := h2
        by_cases c115 : wd = 115
        · rw [if_pos c115] at h3 ⊢
          exact fun u H4 P4 st4 ma4 rl4 => kO _ _ h3 u H4 P4 (((st.trans st2).trans st3').trans st4) ma4 rl4
        · rw [if_neg c115] at h3 ⊢
          refine fun σ4 H4 P4 er4 st4 ma4 => ⟨m2, P4, er4.weak rfl fun j v e => ?_, ((st.trans st2).trans st3').trans st4, ma4, h3⟩
          match j, e with
          | 0, e => exact e
          | 1, e => exact e
          | 2, e => cases e
          | 3, e => cases e
          | 4, e => cases e
          | j + 5, e => cases e
      · have h2 := h.2
        rw [e] at h2
        have st3' : Step a (ShA [.mach, .int n] vs H) H2 P2 H3 P3 := st3.mono fun p hp => by
          rcases hp with hp | hp
          · exact hp.elim
          · refine .inr ?_
            cases q : H p with
            | none => rfl
            | some o => exact absurd hp ((st.trans st2).dom p (by rw [q]; exact fun z => nomatch z))
        refine ⟨true, te, fun _ x0 nx0 => ?_, fun q => Bool.noConfusion q⟩
        have er3 := er2.step st3' ma2
        have l4 : 4 < σ2.length := by rw [← er2.len, List.length_set]; exact Nat.le_of_ble_eq_true rfl
        refine handler_read (g := ⟨C, CF, a, H, P0, T, fun i j m' => d.fn [.mach, .int n] m = (.flt i j, m'), E, ShA [.mach, .int n] vs H, fun _ h => .inr h⟩) (t := (i : Int)) W.cl W.na ma3 ?_ ?_ ?_ rfl rfl ex fun H4 p st4 ma4 ep => ?_
        · rw [List.getElem?_set_ne (by decide)]
          exact slot0 er3 rfl
        · rw [List.getElem?_set_ne (by decide)]
          exact slotI er3 rfl
        · exact List.getElem?_set_self l4
        · exact kO _ _ h2 _ H4 P3 (((st.trans st2).trans st3').trans st4) ma4 ⟨p, rfl, .of ep⟩
    · have q := turn _ m' w1
      rw [if_neg (Nat.lt_irrefl _)] at q
      exact ⟨_, m', P', ⟨er, ma', st⟩, ru4_of rfl gc.2.2.2.1 fun u H2 P2 st2 ma2 rl2 => kO _ _ q u H2 P2 (st.trans st2) ma2 rl2⟩
end
end FHG
end
section
set_option linter.all false
set_option Elab.async false
set_option maxRecDepth 100000
set_option maxHeartbeats 4000000
namespace FHG
open PySem PySem.Spec PyProof.Rows L2 FH

/-! ### answers -/
abbrev sAns : Stmt := top 202
abbrev nAns : List Str := ["calls", "machine", "given", "at", "size", "answer"]
theorem scAns : FnScope nAns ["calls"] (defScope sAns) := ⟨rfl, rfl, rfl, by decide +kernel, rfl, by decide +kernel, by decide +kernel⟩
abbrev F_0 : FQ := fun _ _ _ => False
/-- the loop over the calls l gives o -/
def AnsQ (T : Tab) (l o : List Int) : Prop := ∃ W : Nat → Int → List Int → M → Prop, (∃ n, W n 0 [] (m0 0)) ∧ ∀ n at_ acc m, W n at_ acc m → if at_ < l.length then
  (0 ≤ at_ ∧ callQ (T.fn 132) F_0 [.lst l, .int at_] m fun v m1 => onInt v fun size => 0 ≤ size ∧ callQ (T.fn 135) F_0 [.mach, .int (l.getD at_.toNat 0), .lst (cutI l (at_ + 1) (at_ + size))] m1 fun v m2 => onLst v fun ans =>
    acc.length + ans.length + 2 ≤ 16000000 ∧ ∃ n', n' < n ∧ W n' (at_ + size) (acc ++ (ans.length : Int) :: ans) m2)
  else acc = o
def spAns (K : PySem.W.Frag) (T : Tab) : Sp := fun vs H Q _ => ∃ (p : Addr) (l o : List Int), vs = [.ref p] ∧ (Rd H p (.lst (vI l))) ∧ AnsQ T l o ∧ ∀ (H' : Hp) (q : Addr), H' q = some (.lst (vI o)) → Q (.ref q) H'
section
variable {P : Program} {w : World} {K : PySem.W.Frag} {mg : Str → Option Value} {base : Heap} {C CF f : Addr} {fd : FuncData} {T : Tab}
/-- a list beside the machine is written -/
theorem MAt.side {C a : Addr} {H : Hp} {P : Pt} {m : M} (h : MAt C a H P m) {L : Addr} {o : HO} (na : L ≠ a) (no : ¬ own P L) (nw : P.aw ≠ L) : MAt C a (upd H L o) P m := by
  have k : ∀ b u, H b = some u → b ≠ L → upd H L o b = some u := fun b u e n => by
    rw [upd_ne n]
    exact e
  refine ⟨k _ _ h.ob na.symm, k _ _ h.hx fun z => no (.inl z.symm), k _ _ h.hf fun z => no (.inr (.inl z.symm)), k _ _ h.hm fun z => no (.inr (.inr z.symm)), ?_, h.xf, h.xm, h.fm, h.wo, h.gn⟩
  rcases h.hw with e | ⟨u, e⟩
  · exact .inl (k _ _ e nw)
  · exact .inr ⟨u, k _ _ e nw⟩
theorem Rd.side {H : Hp} {p L : Addr} {u o : HO} (r : Rd H p u) (n : p ≠ L) : Rd (upd H L o) p u := by
  rcases r with e | ⟨z, e⟩
  · exact .inl (by rw [upd_ne n]; exact e)
  · exact .inr ⟨z, by rw [upd_ne n]; exact e⟩
/-- xs.extend(ys), ys tracked or locked -/
theorem extend_rd {X : Cx} : MtM X "list.extend" (fun x vs H Q => ∃ l b xs zs, x = .ref l ∧ vs = [.ref b] ∧ H l = some (.lst xs) ∧ Rd H b (.lst zs) ∧ xs.length + zs.length ≤ sizeLine ∧ Q .non (upd H l (.lst (xs ++ zs)))) := by
  intro pins s σ H x vs v us Q I rx rv h
  obtain ⟨l, b, xs, zs, e1, e2, hH, hB, hz, q⟩ := h
  subst e1 e2
  cases rx
  obtain ⟨u, eu, ru⟩ := rv.one
  subst eu
  cases ru
  obtain ⟨_, i1, n1, v1, k1, g1⟩ := I.lstM hH
  obtain ⟨_, i2, n2, v2, g2⟩ := hB.ok I.hok
  have k2 := v2.length
  have fits : i1.toArray.size + i2.toArray.size ≤ sizeLine := by simp only [List.size_toArray]; omega
  have short : ¬ (!i1.toArray.isEmpty && Builtin.List.listTooLong (i1.toArray.size + i2.toArray.size)) = true := by
    rw [notLongL fits, Bool.and_false]
    exact fun z => nomatch z
  refine call_meets F.slot_list_extend ⟨_, g1, rfl⟩ F.entry_list_extend (F.args_list_extend_2 _ _) (AutoSeq1.list_extend_list_list_0 l i1.toArray n1 b i2.toArray n2 short (by simp only [List.size_toArray]; omega) (by omega)) ⟨g1, g2, ?_⟩
  exact ⟨.non, _, I.lset (its' := i1 ++ i2) hH g1 (by simp) (v1.append v2) (by simp only [List.length_append]; omega), rfl, q⟩
theorem answers_ok {nm : Nm} (W : Wd P w K mg C CF T nm) {k : Nat} (L : Below P w K mg base C CF T nm k 136) (hk : 3 ≤ k) (F : FnP K "answers" "answers" sAns f fd) (h132 : nm.mt 132 = false) (h135 : nm.mt 135 = false) (f132 : nm.fn[132]? = some ("call_size" : Str)) (f135 : nm.fn[135]? = some ("answer_of_call" : Str))
    (gC : mg "Machine" = some (.ref C)) {fI : Addr} {fdI : FuncData} (MK : Mk K C fI) (GI : FnOk P w K mg base (L2.CX P w) 2 fI fdI ["self"] (fun vs H Q E => spBegin C vs H Q E ∧ ∃ a dx, vs = [.ref a] ∧ H a = some (.ins C dx []))) (bI : Binds K fdI ["self"] []) :
    FnOk P w K mg base (L2.CX P w) (k + 1) f fd ["calls"] (spAns K T) := by
  obtain ⟨⟨f1, fd1, ps1, G1, m1, kp1, b1⟩⟩ := L.fn 132 "call_size" (by decide) h132 f132
  obtain ⟨⟨f2, fd2, ps2, G2, m2, kp2, b2⟩⟩ := L.fn 135 "answer_of_call" (by decide) h135 f135
  refine F.ok scAns (fun vs H Q E h => ?_) (fun cdv A outer s H vs Q E hr h => ⟨_,
    pss_cons (ps_set (i := 1) scAns.nd rfl (Or.inl rfl) (pe_make0 MK GI (hr.mono hk) rfl gC bI .nil passL))
    (pss_cons (ps_set (i := 2) scAns.nd rfl (Or.inl rfl) (pe_lst pa_nil))
    (pss_cons (ps_set (i := 3) scAns.nd rfl (Or.inl rfl) pe_int)
    (pss_cons (ps_while (passes_of rfl) (pt_cmpR op_lt (pv 3) (pe_callB call_len_seq rfl (W.blt _ (by decide +kernel)) boot_len (pa_cons (pv 0) pa_nil)) (nomark _))
      (pss_cons (ps_set (i := 4) scAns.nd rfl (Or.inl rfl) (pe_call G1 (hr.mono (Nat.le_refl _)) rfl m1 kp1 b1 .nil passL (pa_cons (pv 0) (pa_cons (pv 3) pa_nil))))
      (pss_cons (ps_set (i := 5) scAns.nd rfl (Or.inl rfl) (pe_call G2 (hr.mono (Nat.le_refl _)) rfl m2 kp2 b2 .nil passL (pa_cons (pv 1) (pa_cons (pe_ix ix_list (pv 0) (pv 3) (fun _ _ => rfl))
        (pa_cons (pe_slice sl_list (pv 0) (po_some (pe_op op_add (pv 3) pe_int)) (po_some (pe_op op_add (pv 3) (pv 4)))) pa_nil)))))
      (pss_cons (ps_expr (pe_bm PySem.F.plainAttrs_list PySem.F.slot_list_append PySem.F.type_list_append mt_append (pv 2) (pa_cons (pe_callB call_len_seq rfl (W.blt _ (by decide +kernel)) boot_len (pa_cons (pv 5) pa_nil)) pa_nil)))
      (pss_cons (ps_expr (pe_bm PySem.F.plainAttrs_list PySem.F.slot_list_extend PySem.F.type_list_extend extend_rd (pv 2) (pa_cons (pv 5) pa_nil)))
      (pss_one (ps_set (i := 3) scAns.nd rfl (Or.inl rfl) (pe_op op_add (pv 3) (pv 4)))))))))
    (pss_one (ps_ret (pv 2)))))), ?_⟩)
  · obtain ⟨p, l, o, rfl, _⟩ := h
    rfl
  · obtain ⟨p, l, o, rfl, hR, ⟨Wf, ⟨n0, w0⟩, turn⟩, k⟩ := h
    have hp : ∃ u, H p = some u := by
      rcases hR with e | ⟨z, e⟩
      · exact ⟨_, e⟩
      · exact ⟨_, e⟩
    obtain ⟨up, hp⟩ := hp
    intro x dx nx nd ne
    have px : p ≠ x := ne_of_none hp nx
    have pd : p ≠ dx := ne_of_none hp nd
    have hp1 : upd (upd H dx (.own x)) x (.ins C dx []) p = some up := by
      rw [upd_ne px, upd_ne pd]
      exact hp
    refine ⟨⟨x, dx, [], rfl, upd_same, .inl rfl, fun H1 ax af am aw h1 h2 h3 h4 hma kp => ⟨rfl, ?_⟩⟩, x, dx, rfl, upd_same⟩
    have R1 : Rd H1 p (.lst (vI l)) := by
      have e := kp p up hp1 px
      rcases hR with q | ⟨z, q⟩
      · rw [hp] at q
        exact .inl (by rw [e, q])
      · rw [hp] at q
        exact .inr ⟨z, by rw [e, q]⟩
    have ma1 := hma 0
    have np : ¬ own ⟨dx, ax, af, am, aw, 0⟩ p := fun z => by
      rcases z with z | z | z
      · rw [show p = ax from z, h1] at hp1; cases hp1
      · rw [show p = af from z, h2] at hp1; cases hp1
      · rw [show p = am from z, h3] at hp1; cases hp1
    refine ⟨Nat.zero_le _, fun pg hg => ?_⟩
    have g1 : pg ≠ x := fun z => by rw [z, ma1.ob] at hg; cases hg
    have g2 : ¬ own ⟨dx, ax, af, am, aw, 0⟩ pg := fun z => by
      rcases z with z | z | z
      · rw [z, ma1.hx] at hg; cases hg
      · rw [z, ma1.hf] at hg; cases hg
      · rw [z, ma1.hm] at hg; cases hg
    have g3 : aw ≠ pg := fun z => by
      rcases ma1.hw with e | ⟨u, e⟩
      · rw [show aw = pg from z, hg] at e; cases e
      · rw [show aw = pg from z, hg] at e; cases e
    have g4 : p ≠ pg := fun z => by
      rcases R1 with e | ⟨u, e⟩
      · rw [z, hg] at e; cases e
      · rw [z, hg] at e; cases e
    refine ⟨fun n σ' H' => ∃ (at_ : Int) (acc : List Int) (m : M) (P : Pt) (sz an : Option V), σ' = [some (.ref p), some (.ref x), some (.ref pg), some (.int at_), sz, an] ∧ MAt C x H' P m ∧ H' pg = some (.lst (vI acc)) ∧ ¬ own P pg ∧ P.aw ≠ pg ∧ Rd H' p (.lst (vI l)) ∧ ¬ own P p ∧ Wf n at_ acc m,
      ⟨n0, 0, [], m0 0, ⟨dx, ax, af, am, aw, 0⟩, none, none, rfl, ma1.side g1 g2 g3, upd_same, g2, g3, Rd.side R1 g4, np, w0⟩, ?_⟩
    rintro n σ' H' ⟨at_, acc, m, P', sz, an, rfl, ma', hpg, no, nw, R', np', wf⟩
    have q := turn n at_ acc m wf
    refine ⟨_, rfl, _, rfl, p, _, rfl, .inl (.inl R'), _, _, rfl, rfl, _, rfl, ?_⟩
    rw [List.length_map]
    by_cases hlt : at_ < l.length
    · rw [if_pos hlt] at q
      rw [decide_eq_true hlt, if_pos rfl]
      obtain ⟨h0, q⟩ := q
      refine ⟨_, fun _ _ z => z, ?_⟩
      refine ⟨_, rfl, _, rfl, x, [.lst l, .int at_], m, P', ⟨_, _, rfl, ⟨p, rfl, R', np', .inl (.inl rfl)⟩, _, _, rfl, rfl, rfl⟩, ma', q.1, fun pv m1 e v H2 P2 st2 ma2 r2 => ?_, fun c w' m1 e => ?_⟩
      rotate_left
      · have z := q.2
        rw [e] at z
        exact z.elim
      have q := q.2
      rw [e] at q
      cases pv <;> first | exact q.elim | skip
      rename_i size
      have ev : v = .int size := r2
      subst ev
      obtain ⟨hs0, q⟩ := (show 0 ≤ size ∧ _ from q)
      have gg : H2 pg = some (.lst (vI acc)) := st2.keep _ _ hpg g1 no
      have no2 : ¬ own P2 pg := fun z => by
        rcases st2.part pg z with z | z
        · exact no z
        · rw [hpg] at z; cases z
      have nw2 : P2.aw ≠ pg := fun z => by
        rcases st2.aw with e | e
        · exact nw (e.symm.trans z)
        · rw [z] at e
          rcases e with (e | e) | e
          · exact g4 (V.ref.inj e)
          · exact e
          · rw [hpg] at e; cases e
      obtain ⟨R2, np2⟩ := st2.rdL ma' R' np'
      refine ⟨_, rfl, _, rfl, _, rfl, p, _, at_, .int (l.getD at_.toNat 0), rfl, rfl, .inl R2, ?_, ?_⟩
      · obtain ⟨v, e1, e2⟩ := at_ints (ns := l) (i := at_) (Q := fun z => z = .int (l.getD at_.toNat 0)) ⟨⟨h0, hlt⟩, rfl⟩
        rw [e1, PV.int.inj e2]
      refine ⟨_, rfl, _, rfl, _, _, rfl, rfl, _, rfl, _, rfl, _, rfl, _, _, rfl, rfl, _, rfl, p, _, rfl, .inl R2, fun pn hn => ?_⟩
      rw [cut_ints l _ _ (by omega) (by omega)]
      have pnx : pn ≠ x := fun z => by rw [z, ma2.ob] at hn; cases hn
      have pgn : pg ≠ pn := fun z => by rw [z, hn] at gg; cases gg
      have ma3 := ma2.new (o := .lst (vI (cutI l (at_ + 1) (at_ + size)))) hn
      have nn3 : ¬ own P2 pn := fun z => by
        rcases z with z | z | z
        · rw [z, ma2.hx] at hn; cases hn
        · rw [z, ma2.hf] at hn; cases hn
        · rw [z, ma2.hm] at hn; cases hn
      have gg3 : upd H2 pn (.lst (vI (cutI l (at_ + 1) (at_ + size)))) pg = some (.lst (vI acc)) := by
        rw [upd_ne pgn]
        exact gg
      have R3 : Rd (upd H2 pn (.lst (vI (cutI l (at_ + 1) (at_ + size))))) p (.lst (vI l)) := Rd.side R2 fun z => by
        rcases R2 with e | ⟨u, e⟩
        · rw [z, hn] at e; cases e
        · rw [z, hn] at e; cases e
      refine ⟨x, [.mach, .int (l.getD at_.toNat 0), .lst (cutI l (at_ + 1) (at_ + size))], m1, P2, ⟨_, _, rfl, rfl, _, _, rfl, rfl, _, _, rfl, ⟨pn, rfl, .inl upd_same, nn3, .inl (.inl rfl)⟩, rfl⟩, ma3, q.1, fun pv m4 e v H4 P4 st4 ma4 r4 => ?_, fun c w' m1 e => ?_⟩
      rotate_left
      · have z := q.2
        rw [e] at z
        exact z.elim
      have q := q.2
      rw [e] at q
      cases pv <;> first | exact q.elim | skip
      rename_i ans
      obtain ⟨qa, ev, Ra, na, sa⟩ := r4
      subst ev
      obtain ⟨hsz, n', hn', wf'⟩ := (show acc.length + ans.length + 2 ≤ 16000000 ∧ _ from q)
      have gg4 : H4 pg = some (.lst (vI acc)) := st4.keep _ _ gg3 g1 no2
      have no4 : ¬ own P4 pg := fun z => by
        rcases st4.part pg z with z | z
        · exact no2 z
        · rw [gg3] at z; cases z
      have notg : ∀ b, ShA [.mach, .int (l.getD at_.toNat 0), .lst (cutI l (at_ + 1) (at_ + size))] [V.ref x, .int (l.getD at_.toNat 0), V.ref pn] (upd H2 pn (.lst (vI (cutI l (at_ + 1) (at_ + size))))) b → b ≠ pg := fun b hb z => by
        rw [z] at hb
        rcases hb with (e | e) | e
        · exact pgn (V.ref.inj e).symm
        · exact e
        · rw [gg3] at e; cases e
      have nw4 : P4.aw ≠ pg := fun z => by
        rcases st4.aw with e | e
        · exact nw2 (e.symm.trans z)
        · exact notg _ e z
      have qpg : qa ≠ pg := notg _ sa
      obtain ⟨R4, np4⟩ := st4.rdL ma3 R3 np2
      have line : 16000000 ≤ sizeLine := by rw [sizeLine_eq]; decide
      refine ⟨_, rfl, .inl ⟨rfl, _, .inl (.inl gg4)⟩, _, rfl, qa, _, rfl, .inl (.inl Ra), pg, _, _, rfl, rfl, gg4, ?_, ?_⟩
      · rw [List.length_map]
        omega
      refine ⟨_, rfl, .inl ⟨rfl, _, .inl (.inl upd_same)⟩, _, rfl, pg, qa, _, vI ans, rfl, rfl, upd_same, Rd.side Ra qpg, ?_, ?_⟩
      · rw [List.length_append, List.length_map, List.length_map]
        show acc.length + 1 + ans.length ≤ _
        omega
      refine ⟨_, rfl, _, rfl, _, _, rfl, rfl, n', hn', at_ + size, acc ++ (ans.length : Int) :: ans, m4, P4, _, _, rfl, (ma4.side g1 no4 nw4).side g1 no4 nw4, ?_, no4, nw4, Rd.side (Rd.side R4 g4) g4, np4, wf'⟩
      rw [upd_same]
      have ee : vI acc ++ [V.int ((vI ans).length : Int)] ++ vI ans = vI (acc ++ (ans.length : Int) :: ans) := by simp [vI]
      rw [ee]
    · rw [if_neg hlt] at q
      rw [decide_eq_false hlt, if_neg Bool.false_ne_true]
      subst q
      exact ⟨_, rfl, k H' pg hpg⟩
end
end FHG
end
section
set_option linter.all false
set_option Elab.async false
set_option maxRecDepth 100000
set_option maxHeartbeats 4000000
namespace FHG
open PySem PySem.Spec PyProof.Rows L2 FH
/-! ### zip of a tuple and a list, the tuple no longer -/
def ItM (K : PySem.W.Frag) (a b : Addr) : It :=
  ⟨fun i H => ∃ (xs ys : List V) (x y : V), SqT K H a xs ∧ SqL K H b ys ∧ xs[i]? = some x ∧ ys[i]? = some y,
    fun i H v H' => ∃ T x y, v = .ref T ∧ H T = none ∧ H' = upd H T (.tup [x, y]) ∧ (∀ xs, SqT K H a xs → xs[i]? = some x) ∧ ∀ ys, SqL K H b ys → ys[i]? = some y,
    fun i H => ∃ xs ys : List V, SqT K H a xs ∧ SqL K H b ys ∧ xs.length ≤ i⟩
theorem turn_mz {P : Program} {w : World} {K : PySem.W.Frag} {elts : List Expr} {kk : Nat} {tpos : Pos} {a b z TI TO i1 i2 : Addr} (D : ZipApart z TI TO i1 i2 a b) :
    Turn P w K (.Tuple elts kk tpos) (ItM K a b) [z, TI, TO, i1, i2] z (fun i h => IsZip h z TI TO .none ∧ IsPair h TI (.ref i1) (.ref i2) ∧ (∃ x y, IsPair h TO x y) ∧ h.IsTupleIter i1 a i ∧ h.IsListIter i2 b i) where
  mem := by simp
  obj := fun i h st c hc => by
    obtain ⟨hz, hTI, ⟨x, y, hTO⟩, ⟨o1, e1, _, d1⟩, ⟨o2, e2, _, d2⟩⟩ := st
    have e' : c = z ∨ c = TI ∨ c = TO ∨ c = i1 ∨ c = i2 := by simpa using hc
    rcases e' with q | q | q | q | q
    · rw [q]; exact ⟨_, hz, fun v q => nomatch q⟩
    · rw [q]; exact ⟨_, hTI, fun v q => nomatch q⟩
    · rw [q]; exact ⟨_, hTO, fun v q => nomatch q⟩
    · rw [q]; exact ⟨o1, e1, fun v q => by rw [d1] at q; cases q⟩
    · rw [q]; exact ⟨o2, e2, fun v q => by rw [d2] at q; cases q⟩
  keep := fun i h h' st k => by
    obtain ⟨hz, hTI, ⟨x, y, hTO⟩, h1, h2⟩ := st
    exact ⟨k z (by simp) _ hz, k TI (by simp) _ hTI, ⟨x, y, k TO (by simp) _ hTO⟩, h1.at fun o q => k i1 (by simp) o q, h2.at fun o q => k i2 (by simp) o q⟩
  item := by
    intro X hP hw hK hc i pins s σ H E I hf st hg
    subst hP hw hK
    obtain ⟨hz, hTI, ⟨x0, y0, hTO⟩, h1, h2⟩ := st
    obtain ⟨xs, ys, x, y, hqx, hqy, hx, hy⟩ := hg
    obtain ⟨its, rv, p, _⟩ := I.tuple hqx
    obtain ⟨its2, rv2, p2, _⟩ := I.list hqy
    obtain ⟨u, hu, ru⟩ := rv.get hx
    obtain ⟨u2, hu2, ru2⟩ := rv2.get hy
    have hzl : z < s.heap.objs.size := Heap.lt_size hz
    refine mz_next D hz hTI hTO h1 h2 p p2.isList (x := u) (y := u2) (by simpa using hu) (by simpa using hu2) fun h' z' TO' h1' h2' hT hsz hk => ?_
    refine ⟨_, rfl, wpAny_letOwnedTupleGo_zip (s := { s with heap := h' }) z' fun h'' z'' sb => ?_⟩
    have hT2 : h''.get? s.heap.objs.size = some { cls := .type "tuple", data := .seq #[u, u2] } := (sb.2 _ (Nat.ne_of_gt hzl)).trans hT
    have new : ObjOk X.prog X.w (upd H s.heap.objs.size (.tup [x, y])) h'' s.heap.objs.size (.tup [x, y]) :=
      ⟨by show 2 ≤ sizeLine; decide, [u, u2], .cons ru (.cons ru2 .nil), ⟨_, hT2, rfl, _, rfl⟩⟩
    have I1 : Inv X pins σ (upd H s.heap.objs.size (.tup [x, y])) { s with heap := h'' } :=
      I.turnedNew (t' := s.toks) (ch := [z, TI, TO, i1, i2]) (fun c o hb q => (sb.2 c (fun q' => hb (by simp [q']))).trans (hk c o (fun q' => hb (by simp [q'])) (fun q' => hb (by simp [q'])) (fun q' => hb (by simp [q'])) (fun q' => hb (by simp [q'])) q)) hf (Nat.le_refl _) new
    refine ⟨.ref s.heap.objs.size, _, I1, rfl, ⟨_, x, y, rfl, I.hok.fresh (Nat.le_refl _), rfl, fun l hl => by rw [I.tuple_inj hl hqx]; exact hx, fun l hl => by rw [I.list_inj hl hqy]; exact hy⟩, ⟨z'', ?_, ⟨u, u2, ?_⟩, ?_, ?_⟩, fun c hcm => ?_⟩
    · exact (sb.2 _ D.TIz).trans (hk _ _ D.TIz D.TITO D.TIi1 D.TIi2 hTI)
    · exact (sb.2 _ D.TOz).trans TO'
    · exact h1'.at fun o q => (sb.2 _ D.i1z).trans q
    · exact h2'.at fun o q => (sb.2 _ D.i2z).trans q
    · have hlt : c < s.heap.objs.size := by
        have e' : c = z ∨ c = TI ∨ c = TO ∨ c = i1 ∨ c = i2 := by simpa using hcm
        rcases e' with q | q | q | q | q
        · rw [q]; exact hzl
        · rw [q]; exact Heap.lt_size hTI
        · rw [q]; exact Heap.lt_size hTO
        · rw [q]; obtain ⟨_, e1, _⟩ := h1; exact Heap.lt_size e1
        · rw [q]; obtain ⟨_, e2, _⟩ := h2; exact Heap.lt_size e2
      rw [upd_ne (Nat.ne_of_lt hlt)]
      exact (hf c hcm).1
  done := by
    intro X hP hw hK hc i pins s σ H E I hf st hg
    subst hP hw hK
    obtain ⟨hz, hTI, ⟨x0, y0, hTO⟩, h1, h2⟩ := st
    obtain ⟨xs, ys, hqx, hqy, hend⟩ := hg
    obtain ⟨its, rv, p, _⟩ := I.tuple hqx
    obtain ⟨its2, rv2, p2, _⟩ := I.list hqy
    have l1 := rv.length
    have l2 := rv2.length
    have he : its.toArray[i]? = none := by simp; omega
    exact mz_stop (I.ok.hd hc) D hz hTI hTO h1 h2 p p2.isList he fun h' hk => ⟨rfl, I.turnedL (t' := s.toks) (ch := [z, TI, TO, i1, i2]) (fun c o hb q =>
      hk c o (fun q' => hb (by simp [q'])) (fun q' => hb (by simp [q'])) (fun q' => hb (by simp [q'])) (fun q' => hb (by simp [q'])) q) hf⟩
  self := fun A i s Q E st h => wpAny_pyIter_zip st.1 h
def iMz (K : PySem.W.Frag) (ta : TA) : TI := fun σ H R => ta σ H fun vs H1 => ∃ a b xs ys, vs = [.ref a, .ref b] ∧ SqT K H1 a xs ∧ SqL K H1 b ys ∧ R (ItM K a b) H1
theorem pi_mz {X : Cx} {e e2 : Expr} {ta : TA} {p pos tpos : Pos} {elts : List Expr} {kk : Nat} (hg : Gl X "zip") (hm : X.mg "zip" = none) (ha : L2.PA X [e, e2] ta)
    (hs : starEach [e, e2] X.env = (false, eval e X.env) :: starEach [e2] X.env) (hpl : (backTo pos (starEach [e2] X.env)).any (·.1) = false) :
    PI X (.Tuple elts kk tpos) (.Call (.Name "zip" p) [e, e2] [] pos) (iMz X.K ta) := by
  refine ⟨fun pins s σ H R I h => ?_⟩
  refine Call_ (ld_blt I hg hm PyProof.Rows.boot_zip (PyProof.Rows.callWith_type1 (thn (ha.run pos pins s σ H _ I h) fun us s1 ⟨vs, H1, I1, r1, q1⟩ => ?_) hs hpl))
  obtain ⟨a, b, xs, ys, ex, hqx, hqy, q⟩ := q1
  subst ex
  cases r1 with
  | cons r rr =>
    cases rr with
    | cons r' rr =>
      cases rr
      cases r
      cases r'
      obtain ⟨its, rv, p1, _⟩ := I1.tuple hqx
      obtain ⟨its2, rv2, p2, _⟩ := I1.list hqy
      obtain ⟨o1, ho1, _⟩ := id p1
      refine mz_call (show s1.heap.IsTuple a its.toArray from p1) p2.isList fun h' hz hTI hTO h1 h2 hsz hk => wpAny_pyIter_zip hz ?_
      have I2 : Inv X pins σ H1 { s1 with heap := h' } := I1.kept (t' := s1.toks) hk
      refine ⟨s1.heap.objs.size + 4, [s1.heap.objs.size + 4, s1.heap.objs.size + 2, s1.heap.objs.size + 3, s1.heap.objs.size, s1.heap.objs.size + 1], _, _, H1, rfl, I2, turn_mz (PySem.W.ktu_apart s1.heap.objs.size a b (Heap.lt_size ho1) p2.lt), ⟨hz, hTI, ⟨_, _, hTO⟩, h1, h2⟩, fun c hcm => ?_, q⟩
      have hle : s1.heap.objs.size ≤ c := by
        have e' : c = s1.heap.objs.size + 4 ∨ c = s1.heap.objs.size + 2 ∨ c = s1.heap.objs.size + 3 ∨ c = s1.heap.objs.size ∨ c = s1.heap.objs.size + 1 := by simpa using hcm
        rcases e' with z | z | z | z | z <;> rw [z]
        · exact Nat.le_add_right _ _
        · exact Nat.le_add_right _ _
        · exact Nat.le_add_right _ _
        · exact Nat.le_refl _
        · exact Nat.le_add_right _ _
      exact I1.fpOk hle (I1.hok.fresh hle)
/-! ### is_within_limits -/
abbrev sLim : Stmt := stOf 133
abbrev nLim : List Str := ["which", "numbers", "limit", "number"]
theorem scLim : FnScope nLim ["which", "numbers"] (defScope sLim) := ⟨rfl, rfl, rfl, by decide +kernel, rfl, by decide +kernel, by decide +kernel⟩
def li2 : FH.Sts := .cons (.ite (.disj (.cons (.cmp .eq (.var 0) (.con 33)) (.cons (.cmp .eq (.var 0) (.con 34)) .nil))) (.cons (.ret (.cmp .le (.bin .add (.at_ (.var 1) (.int 0)) (.at_ (.var 1) (.int 1))) (.con 13))) .nil) .nil) (.cons (.ret (.bl true)) .nil)
/-- lim: the rows of LIMITS -/
def GoodLim (T : Tab) (lim : Int → List Int) (d : Def) : Prop := ∀ args m, d.pre args m → ∃ (q : Int) (l : List Int), args = [.int q, .lst l] ∧ (0 ≤ q ∧ q ≤ 12) ∧ (lim q).length ≤ l.length ∧
  (∀ i, i < (lim q).length → (lim q).getD i 0 < l.getD i 0 → d.fn args m = (.ok (.bl false), m)) ∧
  ((∀ i, i < (lim q).length → l.getD i 0 ≤ (lim q).getD i 0) → exs T (fun i j m' => d.fn args m = (.flt i j, m')) li2 [some (.int q), some (.lst l), none, none] m (fun _ m' => d.fn args m = (.ok .non, m')) (fun v m' => d.fn args m = (.ok v, m')))
theorem vI_get {l : List Int} {i : Nat} {x : V} (h : (vI l)[i]? = some x) : i < l.length ∧ x = .int (l.getD i 0) := by
  rw [List.getElem?_map] at h
  cases e : l[i]? with
  | none => rw [e] at h; cases h
  | some z =>
    rw [e] at h
    obtain ⟨hl, _⟩ := List.getElem?_eq_some_iff.mp e
    refine ⟨hl, ?_⟩
    rw [List.getD_eq_getElem?_getD, e]
    exact (Option.some.inj h).symm
section
variable {P : Program} {w : World} {K : PySem.W.Frag} {mg : Str → Option Value} {base : Heap} {C CF f : Addr} {fd : FuncData} {T : Tab}
theorem lim_ok {nm : Nm} (W : Wd P w K mg C CF T nm) {k n : Nat} (L : Below P w K mg base C CF T nm k n) (hk : 3 ≤ k) (F : FnP K "is_within_limits" "is_within_limits" sLim f fd) {d : Def} {lim : Int → List Int} (g : GoodLim T lim d)
    {pL : Addr} {rs : List Addr} (gL : mg "LIMITS" = some (.ref pL)) (hL : ∀ H, SqT K H pL (rs.map V.ref)) (hR : ∀ q : Int, 0 ≤ q → q ≤ 12 → ∃ r, rs[q.toNat]? = some r ∧ ∀ H, SqT K H r (vI (lim q)))
    (c2 : chSs nLim (defScope sLim) nm n li2 ((defBody sLim).drop 1) = true) :
    FnOk P w K mg base (L2.CX P w) (k + 1) f fd ["which", "numbers"] (spG K C CF d) := by
  refine F.ok scLim (fun vs H Q E h => ?_) (fun cdv A outer s H vs Q E hr h => ?_)
  · obtain ⟨a, args, m, P0, r, ma, pre, _⟩ := h
    rw [rls_len r]
    obtain ⟨q, l, rfl, _⟩ := g args m pre
    rfl
  · obtain ⟨a, args, m, P0, r, ma, pre, kO, kF⟩ := h
    have B := bd_of W L hk scLim (qual := "is_within_limits") (f := f) (cdv := cdv) (A := A) (outer := outer) (s := s) (H := H) (E := E) (a := a) (P0 := P0) (F := fun i j m' => d.fn args m = (.flt i j, m')) (Sh := ShA args vs H) (hs := fun _ h => .inr h) hr
      fun i j m' x H' P' e st ma' ex => kF i j m' e x H' P' st ma' ex
    have b2 := g_pss B li2 _ c2
    refine ⟨_, pss_cons (ps_for (passes_of rfl) rfl (pi_mz rfl (W.blt _ (by decide +kernel)) (pa_cons (pe_ix ix_tup (pe_glob (v := .ref pL) rfl gL rfl) (pv 0) (plain_ix rfl)) (pa_cons (pv 1) pa_nil)) (plain_star rfl) (by rw [plain_star rfl]; rfl))
      (pg_tup rfl (pgs_cons (pg_name (i := 2) scLim.nd rfl (Or.inl rfl)) (pgs_cons (pg_name (i := 3) scLim.nd rfl (Or.inl rfl)) pgs_nil)))
      (pss_one (ps_if (pt_cmpR op_gt (pv 3) (pv 2) (nomark _)) (pss_one (ps_ret pe_bl)) pss_nil))) b2, ?_⟩
    obtain ⟨q, l, rfl, hq, hle, bad, good⟩ := g args m pre
    obtain ⟨u1, r0, rfl, r1, u2, r3, rfl, ⟨pn, rfl, Rn, nn, sn⟩, r4⟩ := r
    have r1 : u1 = .int q := r1
    have r4 : r3 = [] := r4
    subst r1 r4
    obtain ⟨rw_, hrw, hrl⟩ := hR q hq.1 hq.2
    have hat : atI (rs.map V.ref) q = some (.ref rw_) := by
      obtain ⟨z, rfl⟩ := Int.eq_ofNat_of_zero_le hq.1
      refine atI_nat ?_
      rw [List.getElem?_map]
      have hrw : rs[z]? = some rw_ := hrw
      rw [hrw]
      rfl
    have hlt : ∀ {i : Nat}, i < (lim q).length → i < l.length := fun h => Nat.lt_of_lt_of_le h hle
    refine ⟨_, rfl, pL, _, q, _, rfl, rfl, hL H, hat, _, rfl, rw_, pn, _, _, rfl, hrl H, .inl Rn, ?_⟩
    have len1 : (vI (lim q)).length = (lim q).length := List.length_map _
    refine ⟨fun i n σ' H' => n = (lim q).length - i ∧ i ≤ (lim q).length ∧ (∃ P', ∃ (z1 z2 : Option V), σ' = [some (.int q), some (.ref pn), z1, z2] ∧ Step a (ShA [.int q, .lst l] [.int q, .ref pn] H) H P0 H' P' ∧ MAt C a H' P' m) ∧ ∀ j, j < i → l.getD j 0 ≤ (lim q).getD j 0,
      ⟨_, rfl, Nat.zero_le _, ⟨P0, none, none, rfl, .refl ma.thr, ma⟩, fun j hj => absurd hj (Nat.not_lt_zero j)⟩, ?_⟩
    rintro i n σ' H' ⟨rfl, hi, ⟨P', z1, z2, rfl, st, ma'⟩, sm⟩
    obtain ⟨R', n'⟩ := st.rdL ma Rn nn
    have sT := hrl H'
    have sL : SqL K H' pn (vI l) := .inl R'
    by_cases hlt2 : i < (lim q).length
    · have h1 : (vI (lim q))[i]? = some (.int ((lim q).getD i 0)) := by
        rw [List.getElem?_map, List.getD_eq_getElem?_getD, List.getElem?_eq_getElem hlt2]
        rfl
      have h2 : (vI l)[i]? = some (.int (l.getD i 0)) := by
        rw [List.getElem?_map, List.getD_eq_getElem?_getD, List.getElem?_eq_getElem (hlt hlt2)]
        rfl
      refine .inr ⟨⟨_, _, _, _, sT, sL, h1, h2⟩, fun σ2 H2 => (∃ P', ∃ (z1 z2 : Option V), σ2 = [some (.int q), some (.ref pn), z1, z2] ∧ Step a (ShA [.int q, .lst l] [.int q, .ref pn] H) H P0 H2 P' ∧ MAt C a H2 P' m) ∧ ∀ j, j < i + 1 → l.getD j 0 ≤ (lim q).getD j 0,
        fun σ2 H2 ⟨p1, p2⟩ => ⟨_, by omega, rfl, hlt2, p1, p2⟩, fun v H2 y => ?_⟩
      obtain ⟨Tp, x', y', rfl, hT, rfl, f1, f2⟩ := y
      have e1 := (f1 _ sT).symm.trans h1
      have e2 := (f2 _ sL).symm.trans h2
      cases e1
      cases e2
      have st2 := st.trans (.new (o := .tup [.int ((lim q).getD i 0), .int (l.getD i 0)]) ma'.thr hT)
      have ma2 := ma'.new (o := .tup [.int ((lim q).getD i 0), .int (l.getD i 0)]) hT
      refine ⟨Tp, _, rfl, .inl (.inl upd_same), rfl, _, _, rfl, ?_⟩
      refine ⟨_, _, rfl, ?_⟩
      refine ⟨rfl, ?_⟩
      show tIfS _ _ _ _ _ _
      refine ⟨_, rfl, _, rfl, _, _, rfl, rfl, _, rfl, ?_⟩
      by_cases hb : (lim q).getD i 0 < l.getD i 0
      · rw [decide_eq_true hb]; dsimp only; rw [if_pos rfl]
        exact kO _ m (bad i hlt2 hb) _ _ P' st2 ma2 rfl
      · rw [decide_eq_false hb]; dsimp only; rw [if_neg Bool.false_ne_true]
        refine ⟨⟨P', _, _, rfl, st2, ma2⟩, fun j hj => ?_⟩
        by_cases hji : j < i
        · exact sm j hji
        · have e : j = i := by omega
          rw [e]
          omega
    · have e : i = (lim q).length := by omega
      subst e
      refine .inl ⟨⟨_, _, sT, sL, Nat.le_of_eq len1⟩, ?_⟩
      refine ⟨_, m, P', ⟨⟨rfl, fun i v e => ?_⟩, ma', st⟩, exs_mono li2 (fun s' m' e σ' H' P' er st2 ma' => ?_) (fun v m' e u H' P' st2 ma' rl => ?_) (good fun i hi => sm i hi)⟩
      · match i, e with
        | 0, e => cases e; exact ⟨_, rfl, rfl⟩
        | 1, e => cases e; exact ⟨_, rfl, pn, rfl, R', n', sn⟩
        | 2, e => cases e
        | 3, e => cases e
        | i + 4, e => cases e
      · exact kO .non m' e .non H' P' (st.trans st2) ma' rfl
      · exact kO v m' e u H' P' (st.trans st2) ma' rl
end
end FHG
end
section
set_option linter.all false
set_option Elab.async false
set_option maxRecDepth 100000
set_option maxHeartbeats 4000000
namespace FHG
open PySem PySem.Spec PyProof.Rows L2 FH
theorem look_zip : ∀ (ns : List Str) (us : List Value) (n : Str), n ∈ ns → ns.length = us.length → ((ns.zip us).lookup n).isNone = false
  | [], _, _, h, _ => by cases h
  | _ :: _, [], _, _, e => by cases e
  | a :: ns, u :: us, n, h, e => by
    rw [List.zip_cons_cons, List.lookup_cons]
    cases q : n == a with
    | true => rfl
    | false =>
      have m : n ∈ ns := by
        rcases List.mem_cons.mp h with z | z
        · rw [z, beq_self_eq_true] at q
          cases q
        · exact z
      exact look_zip ns us n m (Nat.succ.inj e)
theorem fm_congr {α β : Type} {f g : α → Option β} : ∀ {l : List α}, (∀ a ∈ l, f a = g a) → l.filterMap f = l.filterMap g
  | [], _ => rfl
  | a :: l, h => by
    rw [List.filterMap_cons, List.filterMap_cons, h a (List.mem_cons_self ..), fm_congr fun b hb => h b (List.mem_cons_of_mem _ hb)]
theorem fm_zip : ∀ (ns : List Str) (us : List Value), ns.Nodup → ns.length = us.length → ns.filterMap (fun n => ((ns.zip us).lookup n).map (n, ·)) = ns.zip us
  | [], _, _, _ => rfl
  | _ :: _, [], _, e => by cases e
  | a :: ns, u :: us, nd, e => by
    obtain ⟨n1, n2⟩ := List.nodup_cons.mp nd
    rw [List.zip_cons_cons, List.filterMap_cons, List.lookup_cons, beq_self_eq_true]
    have ih := fm_zip ns us n2 (Nat.succ.inj e)
    have c : ns.filterMap (fun n => (((a, u) :: ns.zip us).lookup n).map (n, ·)) = ns.filterMap (fun n => ((ns.zip us).lookup n).map (n, ·)) := fm_congr fun b hb => by
      rw [List.lookup_cons]
      cases q : b == a with
      | true =>
        rw [beq_iff_eq.mp q] at hb
        exact absurd hb n1
      | false => rfl
    show (a, u) :: ns.filterMap (fun n => (((a, u) :: ns.zip us).lookup n).map (n, ·)) = _
    rw [c, ih]
theorem bind_gen {x qual : Str} {as : List Arg} {body : List Stmt} {scope : Scope} {kwd : List (Option Expr)} {ds : List Expr} {kV doc pm : Value} {an : Option Addr} {cdv ct : Value} {us : List Value} (hl : us.length = as.length) (nd : (as.map (·.arg)).Nodup) :
    bindArgs (PySem.W.fnOf x qual ⟨[], as, none, [], kwd, none, ds⟩ body scope .none kV doc pm an cdv ct) ⟨us, []⟩ = pure ((as.map (·.arg)).zip us) := by
  unfold bindArgs
  have e0 : seqItems? (PySem.W.fnOf x qual ⟨[], as, none, [], kwd, none, ds⟩ body scope .none kV doc pm an cdv ct).defaults = pure none := rfl
  rw [e0]
  have e1 : decide (us.length > (([] : List Str) ++ as.map (·.arg)).length) = false := by simp [hl]
  have e2 : ((as.map (·.arg)).take (as.map (·.arg)).length).filter (fun n => (((as.map (·.arg)).zip us).lookup n).isNone) = [] := by
    rw [List.take_length, List.filter_eq_nil_iff]
    intro n hn
    rw [look_zip _ us n hn (by simp [hl])]
    exact Bool.false_ne_true
  simp [PySem.W.fnOf, hl]
  rw [if_neg (by
    have e5 : (List.map (fun x => x.arg) ([] : List Arg) ++ List.map (fun x => x.arg) as).length - (List.drop ((#[] : Array Value).size - (List.map (fun x => x.arg) ([] : List Arg) ++ List.map (fun x => x.arg) as).length) ([] : List Value)).length = (as.map (·.arg)).length := by simp
    rw [e5]
    show ¬ (!((((as.map (·.arg)).take (as.map (·.arg)).length).filter (fun n => (((as.map (·.arg)).zip us).lookup n).isNone)).isEmpty)) = true
    rw [e2]
    exact Bool.false_ne_true)]
  have e6 := fm_zip (as.map (·.arg)) us nd (by simp [hl])
  rw [List.filterMap_map] at e6
  exact congrArg pure e6
end FHG
end
section
set_option linter.all false
set_option Elab.async false
/-! the table's frame: the machine of the specification in the small language, defs of three kinds -/
namespace FH
open RvNum RvMach
def fm (f : Int) : Fmt := fmtOf f.toNat
def okF (f : Int) : Prop := 0 ≤ f ∧ f ≤ 2
def b2i (b : Bool) : Int := if b = true then 1 else 0
def isInf : Num → Bool
  | .inf _ => true
  | _ => false
def isZero : Num → Bool
  | .fin _ m _ => m == 0
  | _ => false
def pM (F : Fmt) (a : Nat) : Nat := if expoOf F a = 0 then fracOf F a else 2 ^ F.fbits + fracOf F a
def pE (F : Fmt) (a : Nat) : Int := if expoOf F a = 0 then F.unit else F.unit + (expoOf F a : Int) - 1
def iN (l : List Int) : List Nat := l.map Int.toNat
def iB (l : List Int) : List UInt8 := l.map fun x => UInt8.ofNat x.toNat
def nI (l : List Nat) : List Int := l.map fun (n : Nat) => (n : Int)
def bI (l : List UInt8) : List Int := l.map fun c => (c.toNat : Int)
def enc (s : Mach) (g : Nat) : M := ⟨nI s.x, nI s.f, s.frm, s.fflags, s.pc, nI s.words, bI s.mem, s.cause, s.value, g⟩
def dec (m : M) : Mach := ⟨iN m.x, iN m.f, m.frm.toNat, m.fflags.toNat, m.pc.toNat, iN m.words, iB m.mem, m.cause.toNat, m.value.toNat⟩
theorem iN_nI : ∀ l : List Nat, iN (nI l) = l
  | [] => rfl
  | a :: l => by
    show ((a : Int)).toNat :: iN (nI l) = a :: l
    rw [iN_nI l, Int.toNat_natCast]
theorem iB_bI : ∀ l : List UInt8, iB (bI l) = l
  | [] => rfl
  | a :: l => by
    show UInt8.ofNat ((a.toNat : Int)).toNat :: iB (bI l) = a :: l
    rw [iB_bI l, Int.toNat_natCast, UInt8.ofNat_toNat]
theorem dec_enc (s : Mach) (g : Nat) : dec (enc s g) = s := by
  obtain ⟨x, f, r, l, p, w, m, c, v⟩ := s
  unfold dec enc
  dsimp only
  simp only [iN_nI, iB_bI, Int.toNat_natCast]
/-- what holds of the machine between two words -/
structure Inv (s : Mach) : Prop where
  xl : s.x.length = 32
  xs : ∀ v ∈ s.x, v < 2 ^ 64
  x0 : s.x.getD 0 0 = 0
  fl : s.f.length = 32
  fs : ∀ v ∈ s.f, v < 2 ^ 64
  frm : s.frm < 8
  ffl : s.fflags < 32
  pc : s.pc < 2 ^ 64
  wl : s.words.length ≤ 1024
  ws : ∀ v ∈ s.words, v < 2 ^ 32
  ml : s.mem.length = 4096
/-- what is wanted of an outcome -/
def outQ (r : Out × M) (F : FQ) (Q : PQ) : Prop := match r with
  | (.ok v, m') => Q v m'
  | (.flt c w, m') => F c w m'
def pD (pre : List PV → Prop) (val : List PV → PV) : Def := ⟨fun vs _ => pre vs, fun vs m => (.ok (val vs), m)⟩
def fD (pre : List PV → Prop) (val : List PV → Out) : Def := ⟨fun vs _ => pre vs, fun vs m => (val vs, m)⟩
def mD (pre : List PV → Mach → Prop) (f : List PV → Mach → Nat → Out × M) : Def := ⟨fun vs m => ∃ s g, m = enc s g ∧ Inv s ∧ pre vs s, fun vs m => f vs (dec m) m.gen⟩
theorem mD_call {pre : List PV → Mach → Prop} {f : List PV → Mach → Nat → Out × M} {F : FQ} {Q : PQ} {vs : List PV} {s : Mach} {g : Nat} : callQ (mD pre f) F vs (enc s g) Q ↔ (Inv s ∧ pre vs s) ∧ outQ (f vs s g) F Q := by
  have e : f vs (dec (enc s g)) (enc s g).gen = f vs s g := by rw [dec_enc]; rfl
  constructor
  · rintro ⟨⟨s', g', e', i, p⟩, q⟩
    have es : s' = s := by rw [← dec_enc s' g', ← e', dec_enc]
    subst es
    refine ⟨⟨i, p⟩, ?_⟩
    have q2 : outQ (f vs (dec (enc s' g)) (enc s' g).gen) F Q := q
    rw [e] at q2
    exact q2
  · rintro ⟨⟨i, p⟩, q⟩
    refine ⟨⟨s, g, rfl, i, p⟩, ?_⟩
    show outQ (f vs (dec (enc s g)) (enc s g).gen) F Q
    rw [e]
    exact q
def senv (k : Nat) (args : List PV) : Env := args.map some ++ List.replicate (k - args.length) none
/-- the code of a def is right: what it asks and answers; nA arguments, kS slots -/
def Good (T : Tab) (d : Def) (nA kS : Nat) (c : Sts) : Prop := ∀ args m, d.pre args m → args.length = nA ∧
  exs T (fun i j m' => d.fn args m = (.flt i j, m')) c (senv kS args) m (fun _ m' => d.fn args m = (.ok .non, m')) (fun v m' => d.fn args m = (.ok v, m'))
section
variable {T : Tab} {nA kS : Nat} {c : Sts}
theorem pD_good {pre : List PV → Prop} {val : List PV → PV} (h : ∀ F vs m, pre vs → vs.length = nA ∧ exs T F c (senv kS vs) m (fun _ _ => False) (fun v m' => v = val vs ∧ m' = m)) : Good T (pD pre val) nA kS c := fun args m p => by
  obtain ⟨h1, h2⟩ := h (fun i j m' => (pD pre val).fn args m = (.flt i j, m')) args m p
  refine ⟨h1, exs_mono c (fun _ _ q => q.elim) (fun v m' q => ?_) h2⟩
  obtain ⟨rfl, rfl⟩ := q
  rfl
theorem fD_good {pre : List PV → Prop} {val : List PV → Out} (h : ∀ vs m, pre vs → vs.length = nA ∧ exs T (fun i j m' => (val vs, m) = (.flt i j, m')) c (senv kS vs) m (fun _ m' => (val vs, m) = (.ok .non, m')) (fun v m' => (val vs, m) = (.ok v, m'))) : Good T (fD pre val) nA kS c := fun args m p => h args m p
theorem mD_good {pre : List PV → Mach → Prop} {f : List PV → Mach → Nat → Out × M} (h : ∀ vs s g, Inv s → pre vs s → vs.length = nA ∧ exs T (fun i j m' => f vs s g = (.flt i j, m')) c (senv kS vs) (enc s g) (fun _ m' => f vs s g = (.ok .non, m')) (fun v m' => f vs s g = (.ok v, m'))) : Good T (mD pre f) nA kS c := fun args m p => by
  obtain ⟨s, g, rfl, i, p⟩ := p
  have e : (mD pre f).fn args (enc s g) = f args s g := by
    show f args (dec (enc s g)) (enc s g).gen = _
    rw [dec_enc]
    rfl
  rw [e]
  exact h args s g i p
end
/-- begin leaves this -/
def zeros (n : Nat) : List Int := List.replicate n 0
def m0 (g : Nat) : M := ⟨zeros 32, zeros 32, 0, 0, 0, [], zeros 4096, 18446744073709551615, 0, g⟩
end FH
end
section
set_option linter.all false
set_option Elab.async false
namespace FH
open RvNum RvMach
/-! ### what each def asks and answers, in the specification's terms -/
def sg (s : Int) : Prop := s = 0 ∨ s = 1
def okM0 (m : Int) : Prop := 0 ≤ m ∧ m ≤ 4
def t2 (p : Nat × Nat) : PV := .tup [(p.1 : Int), (p.2 : Int)]
def pl (F : Fmt) (a : Nat) : Int := if negOf F a = true then -((a % F.signBit : Nat) : Int) else ((a % F.signBit : Nat) : Int)
def goesN (F : Fmt) (a b : Nat) : Bool := if isZero (num F a) = true ∧ isZero (num F b) = true then negOf F a else decide (pl F a ≤ pl F b)
def chN (F : Fmt) (g : Bool) (a b : Nat) : Nat := if isNan (num F a) = true ∧ isNan (num F b) = true then F.canonical else if isNan (num F a) = true then b else if isNan (num F b) = true then a else if goesN F a b = g then b else a
def belowN (F : Fmt) (a : Nat) : Int := if isInf (num F a) = true then 0 else if isZero (num F a) = true then 3 else if 0 < a % F.signBit ∧ a % F.signBit < 2 ^ F.fbits then 2 else 1
def growN (m s k r d : Int) : Bool := if m = 1 then false else if m = 2 then decide (s = 1) else if m = 3 then decide (s = 0) else if r = d then (decide (m = 4) || decide (k % 2 = 1)) else decide (d < r)
def infZ (x y : Num) : Bool := if isInf x = true then isZero y else isZero x && isInf y
/-- sign, size, power -/
def okP (x : List Int) : Prop := x.length = 3 ∧ sg (x.getD 0 0) ∧ (0 ≤ x.getD 1 0 ∧ ibits (x.getD 1 0) ≤ 120) ∧ (-2200 ≤ x.getD 2 0 ∧ x.getD 2 0 ≤ 2200)
def okQ (x : List Int) : Prop := x.length = 2 ∧ (0 < x.getD 0 0 ∧ ibits (x.getD 0 0) ≤ 60) ∧ (-1200 ≤ x.getD 1 0 ∧ x.getD 1 0 ≤ 1200)
def okL (l : List Int) : Prop := l.length = 3 ∧ 0 ≤ l.getD 0 0 ∧ 0 ≤ l.getD 1 0 ∧ 0 ≤ l.getD 2 0
/-- a word's outcome: as it leaves the machine ahead of the step on; as it leaves it -/
def off (s : Mach) (g : Nat) (o : Outcome) : Out × M := match o with
  | .on s' => (.ok .non, enc { s' with pc := s.pc } g)
  | .fault c v => (.flt c v, enc s g)
  | _ => (.ok .non, enc s g)
def on_ (s : Mach) (g : Nat) (o : Outcome) : Out × M := match o with
  | .on s' => (.ok .non, enc s' g)
  | .fault c v => (.flt c v, enc s g)
  | _ => (.ok .non, enc s g)
def step_ (s : Mach) (g : Nat) (o : Outcome) : Out × M := match o with
  | .on s' => (.ok (.int (s.words.getD (s.pc / 4) 0 : Nat)), enc s' g)
  | .stopped s' => (.ok (.int (s.words.getD (s.pc / 4) 0 : Nat)), enc s' g)
  | .fault c v => (.flt c v, enc s g)
  | _ => (.ok .non, enc s g)
/-- a call by its number and the numbers behind -/
def n0 (l : List Int) (i : Nat) : Nat := (l.getD i 0).toNat
def callN (q : Int) (l : List Int) : WrrvfpSpec.Call :=
  if q = 0 then .op (n0 l 0) (n0 l 1) (n0 l 2) (n0 l 3) (n0 l 4) (n0 l 5)
  else if q = 1 then .compare (n0 l 0) (n0 l 1) (n0 l 2) (n0 l 3)
  else if q = 2 then .class_ (n0 l 0) (n0 l 1)
  else if q = 3 then .convert (n0 l 0) (n0 l 1) (n0 l 2) (n0 l 3)
  else if q = 4 then .toInt (n0 l 0) (n0 l 1) (n0 l 2) (n0 l 3)
  else if q = 5 then .fromInt (n0 l 0) (n0 l 1) (n0 l 2) (n0 l 3)
  else if q = 6 then .new_
  else if q = 7 then .program ((l.drop 1).map Int.toNat)
  else if q = 8 then .run (n0 l 0)
  else if q = 9 then .get (n0 l 0)
  else if q = 10 then .set (n0 l 0) (n0 l 1)
  else if q = 11 then .read (n0 l 0) (n0 l 1)
  else .write (n0 l 0) ((l.drop 2).map Int.toNat)
/-- how many numbers stand behind a call's number -/
def cntL : List Int := [6, 4, 2, 4, 4, 4, 0, 1, 1, 1, 2, 2, 2]
/-- the numbers handed in -/
def askN (q : Int) (l : List Int) : Prop := (∀ x ∈ l, 0 ≤ x ∧ x < 18446744073709551616) ∧
  (if q = 7 then l.length = 1 + n0 l 0 ∧ l.length ≤ 15901 ∧ ∀ x ∈ l.drop 1, x < 4294967296
  else if q = 12 then l.length = 2 + n0 l 1 ∧ l.length ≤ 15902 ∧ ∀ x ∈ l.drop 2, x ≤ 255
  else (l.length : Int) = cntL.getD q.toNat 0)
/-- within the limits -/
def limL (q : Int) : List Int := if q = 0 then [2, 15, 4] else if q = 1 then [2, 4] else if q = 2 then [2] else if q = 3 then [2, 2, 4] else if q = 4 then [2, 7, 4] else if q = 5 then [2, 7, 4] else if q = 7 then [1024] else if q = 8 then [1000] else if q = 9 then [68] else if q = 10 then [66] else []
def inLim (q : Int) (l : List Int) : Bool := ((limL q).zip l).all (fun p => decide (p.2 ≤ p.1)) && (if q = 11 ∨ q = 12 then decide (l.getD 0 0 + l.getD 1 0 ≤ 4096) else true)
/-- the size of the call at a place -/
def sizeOk (l : List Int) (a : Int) : Prop := (0 ≤ a ∧ a < l.length) ∧ (0 ≤ l.getD a.toNat 0 ∧ l.getD a.toNat 0 ≤ 12) ∧ ((l.getD a.toNat 0 = 7 ∨ l.getD a.toNat 0 = 12) → a + cntL.getD (l.getD a.toNat 0).toNat 0 < l.length)
def sizeN (l : List Int) (a : Int) : Int := 1 + cntL.getD (l.getD a.toNat 0).toNat 0 + (if l.getD a.toNat 0 = 7 ∨ l.getD a.toNat 0 = 12 then l.getD (a + cntL.getD (l.getD a.toNat 0).toNat 0).toNat 0 else 0)
def D66 : Def := ⟨fun vs m => vs = [.mach], fun vs m => (.ok .non, m0 (m.gen + 1))⟩

def D0 : Def := pD (fun vs => match vs with
  | [.int f] => okF f
  | _ => False) (fun vs => match vs with
  | [.int f] => .int (fm f).fbits
  | _ => .non)
def D1 : Def := pD (fun vs => match vs with
  | [.int f] => okF f
  | _ => False) (fun vs => match vs with
  | [.int f] => .int (fm f).bias
  | _ => .non)
def D2 : Def := pD (fun vs => match vs with
  | [.int f] => okF f
  | _ => False) (fun vs => match vs with
  | [.int f] => .int (1 - (fm f).bias)
  | _ => .non)
def D3 : Def := pD (fun vs => match vs with
  | [.int f, .int a] => okF f ∧ 0 ≤ a
  | _ => False) (fun vs => match vs with
  | [.int f, .int a] => .int (b2i (negOf (fm f) a.toNat))
  | _ => .non)
def D4 : Def := pD (fun vs => match vs with
  | [.int f, .int a] => okF f ∧ 0 ≤ a
  | _ => False) (fun vs => match vs with
  | [.int f, .int a] => .int ((a.toNat % 2 ^ (fm f).width : Nat) : Int)
  | _ => .non)
def D5 : Def := pD (fun vs => match vs with
  | [.int f, .int a] => okF f ∧ 0 ≤ a
  | _ => False) (fun vs => match vs with
  | [.int f, .int a] => .int ((a.toNat % (fm f).signBit : Nat) : Int)
  | _ => .non)
def D6 : Def := pD (fun vs => match vs with
  | [.int f, .int s, .int n] => okF f ∧ sg s ∧ 0 ≤ n
  | _ => False) (fun vs => match vs with
  | [.int f, .int s, .int n] => .int ((signed (fm f) (decide (s = 1)) n.toNat : Nat) : Int)
  | _ => .non)
def D7 : Def := pD (fun vs => match vs with
  | [.int f, .int a] => okF f ∧ 0 ≤ a
  | _ => False) (fun vs => match vs with
  | [.int f, .int a] => .int ((signed (fm f) (!negOf (fm f) a.toNat) (a.toNat % (fm f).signBit) : Nat) : Int)
  | _ => .non)
def D8 : Def := pD (fun vs => match vs with
  | [.int f] => okF f
  | _ => False) (fun vs => match vs with
  | [.int f] => .int ((fm f).infinity : Nat)
  | _ => .non)
def D9 : Def := pD (fun vs => match vs with
  | [.int f, .int a] => okF f ∧ 0 ≤ a
  | _ => False) (fun vs => match vs with
  | [.int f, .int a] => .bl (isNan (num (fm f) a.toNat))
  | _ => .non)
def D10 : Def := pD (fun vs => match vs with
  | [.int f, .int a] => okF f ∧ 0 ≤ a
  | _ => False) (fun vs => match vs with
  | [.int f, .int a] => .bl (signals (num (fm f) a.toNat))
  | _ => .non)
def D11 : Def := pD (fun vs => match vs with
  | [.int f, .int a] => okF f ∧ 0 ≤ a
  | _ => False) (fun vs => match vs with
  | [.int f, .int a] => .bl (isInf (num (fm f) a.toNat))
  | _ => .non)
def D12 : Def := pD (fun vs => match vs with
  | [.int f, .int a] => okF f ∧ 0 ≤ a
  | _ => False) (fun vs => match vs with
  | [.int f, .int a] => .bl (isZero (num (fm f) a.toNat))
  | _ => .non)
def D13 : Def := pD (fun vs => match vs with
  | [.int f, .int a] => okF f ∧ 0 ≤ a
  | _ => False) (fun vs => match vs with
  | [.int f, .int a] => .bl (decide (0 < a.toNat % (fm f).signBit ∧ a.toNat % (fm f).signBit < 2 ^ (fm f).fbits))
  | _ => .non)
def D14 : Def := pD (fun vs => match vs with
  | [.int f, .int s] => okF f ∧ sg s
  | _ => False) (fun vs => match vs with
  | [.int f, .int s] => .int ((signed (fm f) (decide (s = 1)) 0 : Nat) : Int)
  | _ => .non)
def D15 : Def := pD (fun vs => match vs with
  | [.int f, .int s] => okF f ∧ sg s
  | _ => False) (fun vs => match vs with
  | [.int f, .int s] => .int ((signed (fm f) (decide (s = 1)) (fm f).infinity : Nat) : Int)
  | _ => .non)
def D16 : Def := pD (fun vs => match vs with
  | [.int f, .int s] => okF f ∧ sg s
  | _ => False) (fun vs => match vs with
  | [.int f, .int s] => .int ((signed (fm f) (decide (s = 1)) ((fm f).infinity - 1) : Nat) : Int)
  | _ => .non)
def D17 : Def := pD (fun vs => match vs with
  | [.int f] => okF f
  | _ => False) (fun vs => match vs with
  | [.int f] => .int ((fm f).canonical : Nat)
  | _ => .non)
def D18 : Def := pD (fun vs => match vs with
  | [.int f, .int a] => okF f ∧ 0 ≤ a
  | _ => False) (fun vs => match vs with
  | [.int f, .int a] => .tup [b2i (negOf (fm f) a.toNat), (pM (fm f) a.toNat : Nat), pE (fm f) a.toNat]
  | _ => .non)
def D19 : Def := pD (fun vs => match vs with
  | [.int f, .tup l] => okF f ∧ ∀ a ∈ l, 0 ≤ a
  | _ => False) (fun vs => match vs with
  | [.int f, .tup l] => .int (if (l.map fun a => num (fm f) a.toNat).any signals = true then 16 else 0)
  | _ => .non)
def D20 : Def := pD (fun vs => match vs with
  | [.int f, .int a] => okF f ∧ 0 ≤ a
  | _ => False) (fun vs => match vs with
  | [.int f, .int a] => .int (pl (fm f) a.toNat)
  | _ => .non)
def D21 : Def := pD (fun vs => match vs with
  | [.int f, .int a, .int b] => okF f ∧ 0 ≤ a ∧ 0 ≤ b
  | _ => False) (fun vs => match vs with
  | [.int f, .int a, .int b] => .bl (goesN (fm f) a.toNat b.toNat)
  | _ => .non)
def D22 : Def := pD (fun vs => match vs with
  | [.int f, .bl g, .int a, .int b] => okF f ∧ 0 ≤ a ∧ 0 ≤ b
  | _ => False) (fun vs => match vs with
  | [.int f, .bl g, .int a, .int b] => .int ((chN (fm f) g a.toNat b.toNat : Nat) : Int)
  | _ => .non)
def D23 : Def := pD (fun vs => match vs with
  | [.int f, .bl g, .int a, .int b] => okF f ∧ 0 ≤ a ∧ 0 ≤ b
  | _ => False) (fun vs => match vs with
  | [.int f, .bl g, .int a, .int b] => t2 (if g = true then fmax (fm f) (a.toNat % 2 ^ (fm f).width) (b.toNat % 2 ^ (fm f).width) else fmin (fm f) (a.toNat % 2 ^ (fm f).width) (b.toNat % 2 ^ (fm f).width))
  | _ => .non)
def D24 : Def := pD (fun vs => match vs with
  | [.int f, .int o, .int a, .int b] => okF f ∧ (11 ≤ o ∧ o ≤ 13) ∧ 0 ≤ a ∧ 0 ≤ b
  | _ => False) (fun vs => match vs with
  | [.int f, .int o, .int a, .int b] => t2 (RvNum.op f.toNat o.toNat 0 a.toNat b.toNat 0)
  | _ => .non)
def D25 : Def := pD (fun vs => match vs with
  | [.int f, .int k, .int a, .int b] => okF f ∧ 0 ≤ a ∧ 0 ≤ b
  | _ => False) (fun vs => match vs with
  | [.int f, .int k, .int a, .int b] => t2 (0, if k = 1 ∨ k = 2 then 16 else if signals (num (fm f) a.toNat) = true ∨ signals (num (fm f) b.toNat) = true then 16 else 0)
  | _ => .non)
def D26 : Def := pD (fun vs => match vs with
  | [.int f, .int k, .int a, .int b] => okF f ∧ 0 ≤ a ∧ 0 ≤ b
  | _ => False) (fun vs => match vs with
  | [.int f, .int k, .int a, .int b] => .bl (if k = 0 then decide (pl (fm f) a.toNat = pl (fm f) b.toNat) else if k = 1 ∨ k = 3 then decide (pl (fm f) a.toNat < pl (fm f) b.toNat) else decide (pl (fm f) a.toNat ≤ pl (fm f) b.toNat))
  | _ => .non)
def D27 : Def := pD (fun vs => match vs with
  | [.int f, .int k, .int a, .int b] => okF f ∧ (0 ≤ k ∧ k ≤ 4) ∧ 0 ≤ a ∧ 0 ≤ b
  | _ => False) (fun vs => match vs with
  | [.int f, .int k, .int a, .int b] => t2 (RvNum.compare f.toNat k.toNat a.toNat b.toNat)
  | _ => .non)
def D28 : Def := pD (fun vs => match vs with
  | [.int f, .int a] => okF f ∧ 0 ≤ a
  | _ => False) (fun vs => match vs with
  | [.int f, .int a] => .int (belowN (fm f) a.toNat)
  | _ => .non)
def D29 : Def := pD (fun vs => match vs with
  | [.int f, .int a] => okF f ∧ 0 ≤ a
  | _ => False) (fun vs => match vs with
  | [.int f, .int a] => .int ((classOf f.toNat a.toNat : Nat) : Int)
  | _ => .non)
def D30 : Def := pD (fun vs => match vs with
  | [.int m, .int s, .int k, .int r, .int d] => 0 ≤ k
  | _ => False) (fun vs => match vs with
  | [.int m, .int s, .int k, .int r, .int d] => .bl (growN m s k r d)
  | _ => .non)
def D31 : Def := pD (fun vs => match vs with
  | [.int m, .int s, .int n, .int d] => okM0 m ∧ sg s ∧ (0 ≤ n ∧ ibits n ≤ 10000) ∧ (-10000 ≤ d ∧ d ≤ 10000)
  | _ => False) (fun vs => match vs with
  | [.int m, .int s, .int n, .int d] => .int ((RvNum.rounded m.toNat (decide (s = 1)) (ratioAt n.toNat 1 (-d) 0) : Nat) : Int)
  | _ => .non)
def D32 : Def := pD (fun vs => match vs with
  | [.int n, .int d] => (0 ≤ n ∧ ibits n ≤ 10000) ∧ (-10000 ≤ d ∧ d ≤ 10000)
  | _ => False) (fun vs => match vs with
  | [.int n, .int d] => .bl (decide ((ratioAt n.toNat 1 (-d) 0).2 = 0))
  | _ => .non)
def D33 : Def := pD (fun vs => match vs with
  | [.int f, .int m, .int s, .int n, .int k] => okF f ∧ okM0 m ∧ sg s ∧ (0 < n ∧ ibits n ≤ 4900) ∧ (-4900 ≤ k ∧ k ≤ 4900)
  | _ => False) (fun vs => match vs with
  | [.int f, .int m, .int s, .int n, .int k] => .bl (tiny (fm f) m.toNat (decide (s = 1)) (ratio n.toNat 1 k))
  | _ => .non)
def D34 : Def := pD (fun vs => match vs with
  | [.int f, .int m, .int s] => okF f ∧ okM0 m ∧ sg s
  | _ => False) (fun vs => match vs with
  | [.int f, .int m, .int s] => t2 (beyond (fm f) m.toNat (decide (s = 1)), 5)
  | _ => .non)
def D35 : Def := pD (fun vs => match vs with
  | [.int f, .int m, .int s, .int n, .int k] => okF f ∧ okM0 m ∧ sg s ∧ (0 < n ∧ ibits n ≤ 4900) ∧ (-4900 ≤ k ∧ k ≤ 4900)
  | _ => False) (fun vs => match vs with
  | [.int f, .int m, .int s, .int n, .int k] => t2 (RvNum.round (fm f) m.toNat (decide (s = 1)) (ratio n.toNat 1 k))
  | _ => .non)
def D36 : Def := pD (fun vs => match vs with
  | [.int f] => okF f
  | _ => False) (fun vs => match vs with
  | [.int f] => t2 (RvNum.invalid (fm f))
  | _ => .non)
def D37 : Def := pD (fun vs => match vs with
  | [.int f, .tup l] => okF f ∧ ∀ a ∈ l, 0 ≤ a
  | _ => False) (fun vs => match vs with
  | [.int f, .tup l] => t2 (nans (fm f) (l.map fun a => num (fm f) a.toNat))
  | _ => .non)
def D38 : Def := pD (fun vs => match vs with
  | [.int f, .int m, .tup x, .tup y] => okF f ∧ okM0 m ∧ okP x ∧ okP y
  | _ => False) (fun vs => match vs with
  | [.int f, .int m, .tup x, .tup y] => t2 (RvNum.sum (fm f) m.toNat (decide (x.getD 0 0 = 1)) (x.getD 1 0).toNat (x.getD 2 0) (decide (y.getD 0 0 = 1)) (y.getD 1 0).toNat (y.getD 2 0))
  | _ => .non)
def D39 : Def := pD (fun vs => match vs with
  | [.int f, .int m, .int a, .int b] => okF f ∧ okM0 m ∧ 0 ≤ a ∧ 0 ≤ b
  | _ => False) (fun vs => match vs with
  | [.int f, .int m, .int a, .int b] => t2 (RvNum.add (fm f) m.toNat (num (fm f) a.toNat) (num (fm f) b.toNat))
  | _ => .non)
def D40 : Def := pD (fun vs => match vs with
  | [.int f, .int m, .int a, .int b] => okF f ∧ okM0 m ∧ 0 ≤ a ∧ 0 ≤ b
  | _ => False) (fun vs => match vs with
  | [.int f, .int m, .int a, .int b] => t2 (RvNum.sub (fm f) m.toNat (num (fm f) a.toNat) (num (fm f) b.toNat))
  | _ => .non)
def D41 : Def := pD (fun vs => match vs with
  | [.int f, .int a, .int b] => okF f ∧ 0 ≤ a ∧ 0 ≤ b
  | _ => False) (fun vs => match vs with
  | [.int f, .int a, .int b] => .bl (infZ (num (fm f) a.toNat) (num (fm f) b.toNat))
  | _ => .non)
def D42 : Def := pD (fun vs => match vs with
  | [.int f, .int a, .int b] => okF f ∧ 0 ≤ a ∧ 0 ≤ b
  | _ => False) (fun vs => match vs with
  | [.int f, .int a, .int b] => .tup [b2i (negOf (fm f) a.toNat != negOf (fm f) b.toNat), ((pM (fm f) a.toNat * pM (fm f) b.toNat : Nat) : Int), pE (fm f) a.toNat + pE (fm f) b.toNat]
  | _ => .non)
def D43 : Def := pD (fun vs => match vs with
  | [.int f, .int m, .int a, .int b] => okF f ∧ okM0 m ∧ 0 ≤ a ∧ 0 ≤ b
  | _ => False) (fun vs => match vs with
  | [.int f, .int m, .int a, .int b] => t2 (RvNum.mul (fm f) m.toNat (num (fm f) a.toNat) (num (fm f) b.toNat))
  | _ => .non)
def D44 : Def := pD (fun vs => match vs with
  | [.int f] => okF f
  | _ => False) (fun vs => match vs with
  | [.int f] => .int ((fm f).fbits + 2)
  | _ => .non)
def D45 : Def := pD (fun vs => match vs with
  | [.int k, .bl e] => 0 ≤ k ∧ ibits k ≤ 100000
  | _ => False) (fun vs => match vs with
  | [.int k, .bl e] => .int (2 * k + (if e = true then 0 else 1))
  | _ => .non)
def D46 : Def := pD (fun vs => match vs with
  | [.int f, .int m, .int s, .tup x, .tup y] => okF f ∧ okM0 m ∧ sg s ∧ okQ x ∧ okQ y
  | _ => False) (fun vs => match vs with
  | [.int f, .int m, .int s, .tup x, .tup y] => t2 (RvNum.round (fm f) m.toNat (decide (s = 1)) (ratio (x.getD 0 0).toNat (y.getD 0 0).toNat (x.getD 1 0 - y.getD 1 0)))
  | _ => .non)
def D47 : Def := pD (fun vs => match vs with
  | [.int f, .int m, .int a, .int b] => okF f ∧ okM0 m ∧ 0 ≤ a ∧ 0 ≤ b
  | _ => False) (fun vs => match vs with
  | [.int f, .int m, .int a, .int b] => t2 (RvNum.div (fm f) m.toNat (num (fm f) a.toNat) (num (fm f) b.toNat))
  | _ => .non)
def D48 : Def := pD (fun vs => match vs with
  | [.int n] => 0 < n ∧ ibits n ≤ 1000
  | _ => False) (fun vs => match vs with
  | [.int n] => .int ((isqrt n.toNat : Nat) : Int)
  | _ => .non)
def D49 : Def := pD (fun vs => match vs with
  | [.int f, .int m, .int n, .int k] => okF f ∧ okM0 m ∧ (0 < n ∧ ibits n ≤ 100) ∧ (-1200 ≤ k ∧ k ≤ 1200)
  | _ => False) (fun vs => match vs with
  | [.int f, .int m, .int n, .int k] => t2 (RvNum.round (fm f) m.toNat false (RvNum.root n.toNat k))
  | _ => .non)
def D50 : Def := pD (fun vs => match vs with
  | [.int f, .int m, .int a] => okF f ∧ okM0 m ∧ 0 ≤ a
  | _ => False) (fun vs => match vs with
  | [.int f, .int m, .int a] => t2 (RvNum.sqrt (fm f) m.toNat (num (fm f) a.toNat))
  | _ => .non)
def D51 : Def := pD (fun vs => match vs with
  | [.int f, .int m, .int a, .int b, .int c] => okF f ∧ okM0 m ∧ 0 ≤ a ∧ 0 ≤ b ∧ 0 ≤ c
  | _ => False) (fun vs => match vs with
  | [.int f, .int m, .int a, .int b, .int c] => t2 (RvNum.fma (fm f) m.toNat (num (fm f) a.toNat) (num (fm f) b.toNat) (num (fm f) c.toNat))
  | _ => .non)
def D52 : Def := pD (fun vs => match vs with
  | [.int f, .int o, .int m, .int a, .int b, .int c] => okF f ∧ (5 ≤ o ∧ o ≤ 8) ∧ okM0 m ∧ 0 ≤ a ∧ 0 ≤ b ∧ 0 ≤ c
  | _ => False) (fun vs => match vs with
  | [.int f, .int o, .int m, .int a, .int b, .int c] => t2 (RvNum.op f.toNat o.toNat m.toNat a.toNat b.toNat c.toNat)
  | _ => .non)
def D53 : Def := pD (fun vs => match vs with
  | [.int v] => True
  | _ => False) (fun vs => match vs with
  | [.int v] => .int (v % 18446744073709551616)
  | _ => .non)
def D54 : Def := pD (fun vs => match vs with
  | [.int v, .int b] => 0 ≤ v ∧ (1 ≤ b ∧ b ≤ 64)
  | _ => False) (fun vs => match vs with
  | [.int v, .int b] => .int (lowBits b.toNat true v.toNat)
  | _ => .non)
def D55 : Def := pD (fun vs => match vs with
  | [.int f, .int t, .int m, .int a] => okF f ∧ okF t ∧ okM0 m ∧ 0 ≤ a
  | _ => False) (fun vs => match vs with
  | [.int f, .int t, .int m, .int a] => t2 (convertBits f.toNat t.toNat m.toNat a.toNat)
  | _ => .non)
def D56 : Def := pD (fun vs => match vs with
  | [.int f, .int m, .int a] => okF f ∧ okM0 m ∧ 0 ≤ a
  | _ => False) (fun vs => match vs with
  | [.int f, .int m, .int a] => t2 (toIntegral (fm f) m.toNat true (num (fm f) a.toNat))
  | _ => .non)
def D57 : Def := pD (fun vs => match vs with
  | [.int f, .int m, .int a] => okF f ∧ okM0 m ∧ 0 ≤ a
  | _ => False) (fun vs => match vs with
  | [.int f, .int m, .int a] => t2 (toIntegral (fm f) m.toNat false (num (fm f) a.toNat))
  | _ => .non)
def D58 : Def := pD (fun vs => match vs with
  | [.int t] => 0 ≤ t ∧ t ≤ 7
  | _ => False) (fun vs => match vs with
  | [.int t] => .int (widthOf t.toNat : Nat)
  | _ => .non)
def D59 : Def := pD (fun vs => match vs with
  | [.int t] => 0 ≤ t ∧ t ≤ 7
  | _ => False) (fun vs => match vs with
  | [.int t] => .bl (signedOf t.toNat)
  | _ => .non)
def D60 : Def := pD (fun vs => match vs with
  | [.int t] => 0 ≤ t ∧ t ≤ 7
  | _ => False) (fun vs => match vs with
  | [.int t] => .int (lowest (widthOf t.toNat) (signedOf t.toNat))
  | _ => .non)
def D61 : Def := pD (fun vs => match vs with
  | [.int t] => 0 ≤ t ∧ t ≤ 7
  | _ => False) (fun vs => match vs with
  | [.int t] => .int (highest (widthOf t.toNat) (signedOf t.toNat))
  | _ => .non)
def D62 : Def := pD (fun vs => match vs with
  | [.int t, .bl b] => 0 ≤ t ∧ t ≤ 7
  | _ => False) (fun vs => match vs with
  | [.int t, .bl b] => t2 (bits64 (if b = true then lowest (widthOf t.toNat) (signedOf t.toNat) else highest (widthOf t.toNat) (signedOf t.toNat)), 16)
  | _ => .non)
def D63 : Def := pD (fun vs => match vs with
  | [.int f, .int t, .int m, .int a] => okF f ∧ (0 ≤ t ∧ t ≤ 7) ∧ okM0 m ∧ 0 ≤ a
  | _ => False) (fun vs => match vs with
  | [.int f, .int t, .int m, .int a] => t2 (toWhole f.toNat t.toNat m.toNat a.toNat)
  | _ => .non)
def D64 : Def := pD (fun vs => match vs with
  | [.int t, .int v] => (0 ≤ t ∧ t ≤ 7) ∧ 0 ≤ v
  | _ => False) (fun vs => match vs with
  | [.int t, .int v] => .int (lowBits (widthOf t.toNat) (signedOf t.toNat) v.toNat)
  | _ => .non)
def D65 : Def := pD (fun vs => match vs with
  | [.int f, .int t, .int m, .int v] => okF f ∧ (0 ≤ t ∧ t ≤ 7) ∧ okM0 m ∧ 0 ≤ v
  | _ => False) (fun vs => match vs with
  | [.int f, .int t, .int m, .int v] => t2 (fromWhole f.toNat t.toNat m.toNat v.toNat)
  | _ => .non)
def P67 : List PV → Mach → Prop := fun vs s => match vs with
  | [.mach, .int r, .int v] => 0 ≤ r ∧ r < 32
  | _ => False
def V67 : List PV → Mach → Nat → Out × M := fun vs s g => match vs with
  | [.mach, .int r, .int v] => (.ok .non, enc (s.setX r.toNat (v % 18446744073709551616).toNat) g)
  | _ => (.ok .non, enc s g)
def D67 : Def := mD P67 V67
def P68 : List PV → Mach → Prop := fun vs s => match vs with
  | [.mach, .int f, .int r] => okF f ∧ (0 ≤ r ∧ r < 32)
  | _ => False
def V68 : List PV → Mach → Nat → Out × M := fun vs s g => match vs with
  | [.mach, .int f, .int r] => (.ok (.int ((s.fr f.toNat r.toNat : Nat) : Int)), enc s g)
  | _ => (.ok .non, enc s g)
def D68 : Def := mD P68 V68
def P69 : List PV → Mach → Prop := fun vs s => match vs with
  | [.mach, .int f, .int r, .int v] => okF f ∧ (0 ≤ r ∧ r < 32) ∧ (0 ≤ v ∧ v < 2 ^ (fm f).width)
  | _ => False
def V69 : List PV → Mach → Nat → Out × M := fun vs s g => match vs with
  | [.mach, .int f, .int r, .int v] => (.ok .non, enc (s.setF f.toNat r.toNat v.toNat) g)
  | _ => (.ok .non, enc s g)
def D69 : Def := mD P69 V69
def P70 : List PV → Mach → Prop := fun vs s => match vs with
  | [.mach, .int v] => 0 ≤ v ∧ v < 32
  | _ => False
def V70 : List PV → Mach → Nat → Out × M := fun vs s g => match vs with
  | [.mach, .int v] => (.ok .non, enc (s.raise v.toNat) g)
  | _ => (.ok .non, enc s g)
def D70 : Def := mD P70 V70
def P71 : List PV → Mach → Prop := fun vs s => match vs with
  | [.mach, .int a, .int n] => 0 ≤ a ∧ 0 ≤ n ∧ n ≤ 8 ∧ a + n ≤ 4096
  | _ => False
def V71 : List PV → Mach → Nat → Out × M := fun vs s g => match vs with
  | [.mach, .int a, .int n] => (.ok (.int ((valueOf ((s.mem.drop a.toNat).take n.toNat) : Nat) : Int)), enc s g)
  | _ => (.ok .non, enc s g)
def D71 : Def := mD P71 V71
def P72 : List PV → Mach → Prop := fun vs s => match vs with
  | [.mach, .int a, .int n, .int v] => 0 ≤ a ∧ 0 ≤ n ∧ n ≤ 8 ∧ a + n ≤ 4096 ∧ 0 ≤ v
  | _ => False
def V72 : List PV → Mach → Nat → Out × M := fun vs s g => match vs with
  | [.mach, .int a, .int n, .int v] => (.ok .non, enc { s with mem := s.mem.take a.toNat ++ (bytesOf n.toNat v.toNat ++ s.mem.drop (a.toNat + n.toNat)) } g)
  | _ => (.ok .non, enc s g)
def D72 : Def := mD P72 V72
def D73 : Def := fD (fun vs => match vs with
  | [.bl b, .int w] => True
  | _ => False) (fun vs => match vs with
  | [.bl b, .int w] => if b = true then .ok .non else .flt 2 w
  | _ => .ok .non)
def D74 : Def := pD (fun vs => match vs with
  | [.int w] => 0 ≤ w ∧ w < 4294967296
  | _ => False) (fun vs => match vs with
  | [.int w] => .int (opcodeOf w.toNat : Nat)
  | _ => .non)
def D75 : Def := pD (fun vs => match vs with
  | [.int w] => 0 ≤ w ∧ w < 4294967296
  | _ => False) (fun vs => match vs with
  | [.int w] => .int (rdOf w.toNat : Nat)
  | _ => .non)
def D76 : Def := pD (fun vs => match vs with
  | [.int w] => 0 ≤ w ∧ w < 4294967296
  | _ => False) (fun vs => match vs with
  | [.int w] => .int (f3Of w.toNat : Nat)
  | _ => .non)
def D77 : Def := pD (fun vs => match vs with
  | [.int w] => 0 ≤ w ∧ w < 4294967296
  | _ => False) (fun vs => match vs with
  | [.int w] => .int (rs1Of w.toNat : Nat)
  | _ => .non)
def D78 : Def := pD (fun vs => match vs with
  | [.int w] => 0 ≤ w ∧ w < 4294967296
  | _ => False) (fun vs => match vs with
  | [.int w] => .int (rs2Of w.toNat : Nat)
  | _ => .non)
def D79 : Def := pD (fun vs => match vs with
  | [.int w] => 0 ≤ w ∧ w < 4294967296
  | _ => False) (fun vs => match vs with
  | [.int w] => .int (fmOf w.toNat : Nat)
  | _ => .non)
def D80 : Def := pD (fun vs => match vs with
  | [.int w] => 0 ≤ w ∧ w < 4294967296
  | _ => False) (fun vs => match vs with
  | [.int w] => .int (f7Of w.toNat : Nat)
  | _ => .non)
def D81 : Def := pD (fun vs => match vs with
  | [.int w] => 0 ≤ w ∧ w < 4294967296
  | _ => False) (fun vs => match vs with
  | [.int w] => .int (f5Of w.toNat : Nat)
  | _ => .non)
def D82 : Def := pD (fun vs => match vs with
  | [.int w] => 0 ≤ w ∧ w < 4294967296
  | _ => False) (fun vs => match vs with
  | [.int w] => .int (f5Of w.toNat : Nat)
  | _ => .non)
def D83 : Def := pD (fun vs => match vs with
  | [.int w] => 0 ≤ w ∧ w < 4294967296
  | _ => False) (fun vs => match vs with
  | [.int w] => .int (bitsOf w.toNat 20 12 : Nat)
  | _ => .non)
def D84 : Def := pD (fun vs => match vs with
  | [.int w] => 0 ≤ w ∧ w < 4294967296
  | _ => False) (fun vs => match vs with
  | [.int w] => .int (lowBits 12 true (bitsOf w.toNat 20 12))
  | _ => .non)
def D85 : Def := pD (fun vs => match vs with
  | [.int w] => 0 ≤ w ∧ w < 4294967296
  | _ => False) (fun vs => match vs with
  | [.int w] => .int (lowBits 12 true (bitsOf w.toNat 25 7 * 2 ^ 5 + bitsOf w.toNat 7 5))
  | _ => .non)
def D86 : Def := pD (fun vs => match vs with
  | [.int w] => 0 ≤ w ∧ w < 4294967296
  | _ => False) (fun vs => match vs with
  | [.int w] => .int (lowBits 13 true (bitsOf w.toNat 31 1 * 2 ^ 12 + bitsOf w.toNat 7 1 * 2 ^ 11 + bitsOf w.toNat 25 6 * 2 ^ 5 + bitsOf w.toNat 8 4 * 2))
  | _ => .non)
def D87 : Def := pD (fun vs => match vs with
  | [.int w] => 0 ≤ w ∧ w < 4294967296
  | _ => False) (fun vs => match vs with
  | [.int w] => .int (lowBits 21 true (bitsOf w.toNat 31 1 * 2 ^ 20 + bitsOf w.toNat 12 8 * 2 ^ 12 + bitsOf w.toNat 20 1 * 2 ^ 11 + bitsOf w.toNat 21 10 * 2))
  | _ => .non)
def P88 : List PV → Mach → Prop := fun vs s => match vs with
  | [.mach, .int q] => 1 ≤ q ∧ q ≤ 3
  | _ => False
def V88 : List PV → Mach → Nat → Out × M := fun vs s g => match vs with
  | [.mach, .int q] => (.ok (.int (s.csr q.toNat : Nat)), enc s g)
  | _ => (.ok .non, enc s g)
def D88 : Def := mD P88 V88
def P89 : List PV → Mach → Prop := fun vs s => match vs with
  | [.mach, .int q, .int v] => (1 ≤ q ∧ q ≤ 3) ∧ 0 ≤ v
  | _ => False
def V89 : List PV → Mach → Nat → Out × M := fun vs s g => match vs with
  | [.mach, .int q, .int v] => (.ok .non, enc (s.setCsr q.toNat v.toNat) g)
  | _ => (.ok .non, enc s g)
def D89 : Def := mD P89 V89
def D90 : Def := pD (fun vs => match vs with
  | [.int f, .int o, .int n] => (1 ≤ f ∧ f ≤ 3) ∧ (0 ≤ o ∧ o < 18446744073709551616) ∧ (0 ≤ n ∧ n < 18446744073709551616)
  | _ => False) (fun vs => match vs with
  | [.int f, .int o, .int n] => .int ((if f = 1 then n.toNat else if f = 2 then Nat.lor o.toNat n.toNat else Nat.land o.toNat (Nat.xor (2 ^ 64 - 1) n.toNat) : Nat) : Int)
  | _ => .non)
def P91 : List PV → Mach → Prop := fun vs s => match vs with
  | [.mach, .int w] => 0 ≤ w ∧ w < 4294967296 ∧ w ≠ 115
  | _ => False
def V91 : List PV → Mach → Nat → Out × M := fun vs s g => match vs with
  | [.mach, .int w] => off s g (execCsr s w.toNat)
  | _ => (.ok .non, enc s g)
def D91 : Def := mD P91 V91
def D92 : Def := pD (fun vs => match vs with
  | [.int f, .int o, .int m, .lst l] => okF f ∧ (0 ≤ o ∧ o ≤ 8) ∧ okM0 m ∧ okL l
  | _ => False) (fun vs => match vs with
  | [.int f, .int o, .int m, .lst l] => t2 (RvNum.op f.toNat o.toNat m.toNat (l.getD 0 0).toNat (l.getD 1 0).toNat (l.getD 2 0).toNat)
  | _ => .non)
def D93 : Def := pD (fun vs => match vs with
  | [.int f, .int o, .int m, .lst l] => okF f ∧ (0 ≤ o ∧ o ≤ 15) ∧ okM0 m ∧ okL l
  | _ => False) (fun vs => match vs with
  | [.int f, .int o, .int m, .lst l] => t2 (RvNum.op f.toNat o.toNat m.toNat (l.getD 0 0).toNat (l.getD 1 0).toNat (l.getD 2 0).toNat)
  | _ => .non)
def D94 : Def := fD (fun vs => match vs with
  | [.int w] => 0 ≤ w ∧ w < 4294967296
  | _ => False) (fun vs => match vs with
  | [.int w] => if fmOf w.toNat = 3 then .flt 2 w else .ok (.int (fmOf w.toNat : Nat))
  | _ => .ok .non)
def P95 : List PV → Mach → Prop := fun vs s => match vs with
  | [.mach, .int w] => 0 ≤ w ∧ w < 4294967296
  | _ => False
def V95 : List PV → Mach → Nat → Out × M := fun vs s g => match vs with
  | [.mach, .int w] => match s.mode (f3Of w.toNat) with
    | none => (.flt 2 w, enc s g)
    | some rm => (.ok (.int (rm : Nat)), enc s g)
  | _ => (.ok .non, enc s g)
def D95 : Def := mD P95 V95
def P96 : List PV → Mach → Prop := fun vs s => match vs with
  | [.mach, .int w, .tup l] => 0 ≤ w ∧ w < 4294967296 ∧ fmOf w.toNat ≠ 3 ∧ l.length = 2 ∧ (0 ≤ l.getD 0 0 ∧ l.getD 0 0 < 2 ^ (fmtOf (fmOf w.toNat)).width) ∧ (0 ≤ l.getD 1 0 ∧ l.getD 1 0 < 32)
  | _ => False
def V96 : List PV → Mach → Nat → Out × M := fun vs s g => match vs with
  | [.mach, .int w, .tup l] => (.ok .non, enc ((s.raise (l.getD 1 0).toNat).setF (fmOf w.toNat) (rdOf w.toNat) (l.getD 0 0).toNat) g)
  | _ => (.ok .non, enc s g)
def D96 : Def := mD P96 V96
def P97 : List PV → Mach → Prop := fun vs s => match vs with
  | [.mach, .int w, .tup l] => 0 ≤ w ∧ w < 4294967296 ∧ l.length = 2 ∧ (0 ≤ l.getD 1 0 ∧ l.getD 1 0 < 32)
  | _ => False
def V97 : List PV → Mach → Nat → Out × M := fun vs s g => match vs with
  | [.mach, .int w, .tup l] => (.ok .non, enc ((s.raise (l.getD 1 0).toNat).setX (rdOf w.toNat) (l.getD 0 0 % 18446744073709551616).toNat) g)
  | _ => (.ok .non, enc s g)
def D97 : Def := mD P97 V97
def P98 : List PV → Mach → Prop := fun vs s => match vs with
  | [.mach, .int w] => 0 ≤ w ∧ w < 4294967296 ∧ (w % 128 = 67 ∨ w % 128 = 71 ∨ w % 128 = 75 ∨ w % 128 = 79)
  | _ => False
def V98 : List PV → Mach → Nat → Out × M := fun vs s g => match vs with
  | [.mach, .int w] => off s g (exec s w.toNat)
  | _ => (.ok .non, enc s g)
def D98 : Def := mD P98 V98
def P99 : List PV → Mach → Prop := fun vs s => match vs with
  | [.mach, .int w, .int o, .int m] => 0 ≤ w ∧ w < 4294967296 ∧ (0 ≤ o ∧ o ≤ 15) ∧ okM0 m
  | _ => False
def V99 : List PV → Mach → Nat → Out × M := fun vs s g => match vs with
  | [.mach, .int w, .int o, .int m] => if fmOf w.toNat = 3 then (.flt 2 w, enc s g) else off s g (intoF s (fmOf w.toNat) (rdOf w.toNat) (RvNum.op (fmOf w.toNat) o.toNat m.toNat (s.fr (fmOf w.toNat) (rs1Of w.toNat)) (s.fr (fmOf w.toNat) (rs2Of w.toNat)) 0))
  | _ => (.ok .non, enc s g)
def D99 : Def := mD P99 V99
def P100 : List PV → Mach → Prop := fun vs s => match vs with
  | [.mach, .int w, .tup l] => 0 ≤ w ∧ w < 4294967296 ∧ ((f5Of w.toNat = 4 ∧ l = [11, 12, 13]) ∨ (f5Of w.toNat = 5 ∧ l = [9, 10]))
  | _ => False
def V100 : List PV → Mach → Nat → Out × M := fun vs s g => match vs with
  | [.mach, .int w, .tup l] => off s g (execOp s w.toNat)
  | _ => (.ok .non, enc s g)
def D100 : Def := mD P100 V100
def P101 : List PV → Mach → Prop := fun vs s => match vs with
  | [.mach, .int w] => 0 ≤ w ∧ w < 4294967296 ∧ f5Of w.toNat = 11
  | _ => False
def V101 : List PV → Mach → Nat → Out × M := fun vs s g => match vs with
  | [.mach, .int w] => off s g (execOp s w.toNat)
  | _ => (.ok .non, enc s g)
def D101 : Def := mD P101 V101
def P102 : List PV → Mach → Prop := fun vs s => match vs with
  | [.mach, .int w] => 0 ≤ w ∧ w < 4294967296 ∧ f5Of w.toNat = 8
  | _ => False
def V102 : List PV → Mach → Nat → Out × M := fun vs s g => match vs with
  | [.mach, .int w] => off s g (execOp s w.toNat)
  | _ => (.ok .non, enc s g)
def D102 : Def := mD P102 V102
def P103 : List PV → Mach → Prop := fun vs s => match vs with
  | [.mach, .int w] => 0 ≤ w ∧ w < 4294967296 ∧ f5Of w.toNat = 20
  | _ => False
def V103 : List PV → Mach → Nat → Out × M := fun vs s g => match vs with
  | [.mach, .int w] => off s g (execOp s w.toNat)
  | _ => (.ok .non, enc s g)
def D103 : Def := mD P103 V103
def D104 : Def := fD (fun vs => match vs with
  | [.int w] => 0 ≤ w ∧ w < 4294967296
  | _ => False) (fun vs => match vs with
  | [.int w] => if rs2Of w.toNat ≤ 3 then .ok (.int (4 + (rs2Of w.toNat : Nat))) else .flt 2 w
  | _ => .ok .non)
def P105 : List PV → Mach → Prop := fun vs s => match vs with
  | [.mach, .int w] => 0 ≤ w ∧ w < 4294967296 ∧ f5Of w.toNat = 24
  | _ => False
def V105 : List PV → Mach → Nat → Out × M := fun vs s g => match vs with
  | [.mach, .int w] => off s g (execOp s w.toNat)
  | _ => (.ok .non, enc s g)
def D105 : Def := mD P105 V105
def P106 : List PV → Mach → Prop := fun vs s => match vs with
  | [.mach, .int w] => 0 ≤ w ∧ w < 4294967296 ∧ f5Of w.toNat = 26
  | _ => False
def V106 : List PV → Mach → Nat → Out × M := fun vs s g => match vs with
  | [.mach, .int w] => off s g (execOp s w.toNat)
  | _ => (.ok .non, enc s g)
def D106 : Def := mD P106 V106
def P107 : List PV → Mach → Prop := fun vs s => match vs with
  | [.mach, .int w] => 0 ≤ w ∧ w < 4294967296 ∧ f5Of w.toNat = 28
  | _ => False
def V107 : List PV → Mach → Nat → Out × M := fun vs s g => match vs with
  | [.mach, .int w] => off s g (execOp s w.toNat)
  | _ => (.ok .non, enc s g)
def D107 : Def := mD P107 V107
def P108 : List PV → Mach → Prop := fun vs s => match vs with
  | [.mach, .int w] => 0 ≤ w ∧ w < 4294967296 ∧ f5Of w.toNat = 30
  | _ => False
def V108 : List PV → Mach → Nat → Out × M := fun vs s g => match vs with
  | [.mach, .int w] => off s g (execOp s w.toNat)
  | _ => (.ok .non, enc s g)
def D108 : Def := mD P108 V108
def P109 : List PV → Mach → Prop := fun vs s => match vs with
  | [.mach, .int w] => 0 ≤ w ∧ w < 4294967296 ∧ f5Of w.toNat ≠ 20 ∧ f5Of w.toNat ≠ 24 ∧ f5Of w.toNat ≠ 28
  | _ => False
def V109 : List PV → Mach → Nat → Out × M := fun vs s g => match vs with
  | [.mach, .int w] => off s g (execOp s w.toNat)
  | _ => (.ok .non, enc s g)
def D109 : Def := mD P109 V109
def P110 : List PV → Mach → Prop := fun vs s => match vs with
  | [.mach, .int w] => 0 ≤ w ∧ w < 4294967296
  | _ => False
def V110 : List PV → Mach → Nat → Out × M := fun vs s g => match vs with
  | [.mach, .int w] => off s g (execOp s w.toNat)
  | _ => (.ok .non, enc s g)
def D110 : Def := mD P110 V110
def D111 : Def := fD (fun vs => match vs with
  | [.int w] => 0 ≤ w ∧ w < 4294967296
  | _ => False) (fun vs => match vs with
  | [.int w] => match bytesOfF3 (f3Of w.toNat) with
    | none => .flt 2 w
    | some p => .ok (t2 p)
  | _ => .ok .non)
def P112 : List PV → Mach → Prop := fun vs s => match vs with
  | [.mach, .int w, .int o, .int n, .int c] => 0 ≤ w ∧ w < 4294967296 ∧ (0 ≤ n ∧ n ≤ 8)
  | _ => False
def V112 : List PV → Mach → Nat → Out × M := fun vs s g => match vs with
  | [.mach, .int w, .int o, .int n, .int c] => (if (((s.xr (rs1Of w.toNat) : Nat) : Int) + o) % 18446744073709551616 + n ≤ 4096 then .ok (.int ((((s.xr (rs1Of w.toNat) : Nat) : Int) + o) % 18446744073709551616)) else .flt c ((((s.xr (rs1Of w.toNat) : Nat) : Int) + o) % 18446744073709551616), enc s g)
  | _ => (.ok .non, enc s g)
def D112 : Def := mD P112 V112
def P113 : List PV → Mach → Prop := fun vs s => match vs with
  | [.mach, .int w] => 0 ≤ w ∧ w < 4294967296
  | _ => False
def V113 : List PV → Mach → Nat → Out × M := fun vs s g => match vs with
  | [.mach, .int w] => off s g (execLoad s w.toNat)
  | _ => (.ok .non, enc s g)
def D113 : Def := mD P113 V113
def P114 : List PV → Mach → Prop := fun vs s => match vs with
  | [.mach, .int w] => 0 ≤ w ∧ w < 4294967296
  | _ => False
def V114 : List PV → Mach → Nat → Out × M := fun vs s g => match vs with
  | [.mach, .int w] => off s g (execStore s w.toNat)
  | _ => (.ok .non, enc s g)
def D114 : Def := mD P114 V114
def P115 : List PV → Mach → Prop := fun vs s => match vs with
  | [.mach, .int w] => 0 ≤ w ∧ w < 4294967296 ∧ opcodeOf w.toNat = 55
  | _ => False
def V115 : List PV → Mach → Nat → Out × M := fun vs s g => match vs with
  | [.mach, .int w] => off s g (exec s w.toNat)
  | _ => (.ok .non, enc s g)
def D115 : Def := mD P115 V115
def P116 : List PV → Mach → Prop := fun vs s => match vs with
  | [.mach, .int w] => 0 ≤ w ∧ w < 4294967296 ∧ opcodeOf w.toNat = 19
  | _ => False
def V116 : List PV → Mach → Nat → Out × M := fun vs s g => match vs with
  | [.mach, .int w] => off s g (exec s w.toNat)
  | _ => (.ok .non, enc s g)
def D116 : Def := mD P116 V116
def P117 : List PV → Mach → Prop := fun vs s => match vs with
  | [.mach, .int w] => 0 ≤ w ∧ w < 4294967296 ∧ opcodeOf w.toNat = 51
  | _ => False
def V117 : List PV → Mach → Nat → Out × M := fun vs s g => match vs with
  | [.mach, .int w] => off s g (exec s w.toNat)
  | _ => (.ok .non, enc s g)
def D117 : Def := mD P117 V117
def P118 : List PV → Mach → Prop := fun vs s => match vs with
  | [.mach, .int o] => True
  | _ => False
def V118 : List PV → Mach → Nat → Out × M := fun vs s g => match vs with
  | [.mach, .int o] => (if ((s.pc : Int) + o) % 18446744073709551616 % 4 = 0 then .ok (.int (((s.pc : Int) + o) % 18446744073709551616)) else .flt 0 (((s.pc : Int) + o) % 18446744073709551616), enc s g)
  | _ => (.ok .non, enc s g)
def D118 : Def := mD P118 V118
def P119 : List PV → Mach → Prop := fun vs s => match vs with
  | [.mach, .int w] => 0 ≤ w ∧ w < 4294967296
  | _ => False
def V119 : List PV → Mach → Nat → Out × M := fun vs s g => match vs with
  | [.mach, .int w] => (match taken (f3Of w.toNat) (s.xr (rs1Of w.toNat)) (s.xr (rs2Of w.toNat)) with
    | none => .flt 2 w
    | some b => .ok (.bl b), enc s g)
  | _ => (.ok .non, enc s g)
def D119 : Def := mD P119 V119
def P120 : List PV → Mach → Prop := fun vs s => match vs with
  | [.mach, .int w] => 0 ≤ w ∧ w < 4294967296 ∧ opcodeOf w.toNat = 99 ∧ s.pc < 4096
  | _ => False
def V120 : List PV → Mach → Nat → Out × M := fun vs s g => match vs with
  | [.mach, .int w] => on_ s g (exec s w.toNat)
  | _ => (.ok .non, enc s g)
def D120 : Def := mD P120 V120
def P121 : List PV → Mach → Prop := fun vs s => match vs with
  | [.mach, .int w] => 0 ≤ w ∧ w < 4294967296 ∧ opcodeOf w.toNat = 111 ∧ s.pc < 4096
  | _ => False
def V121 : List PV → Mach → Nat → Out × M := fun vs s g => match vs with
  | [.mach, .int w] => on_ s g (exec s w.toNat)
  | _ => (.ok .non, enc s g)
def D121 : Def := mD P121 V121
def P122 : List PV → Mach → Prop := fun vs s => match vs with
  | [.mach, .int w] => 0 ≤ w ∧ w < 4294967296 ∧ opcodeOf w.toNat ≠ 99 ∧ opcodeOf w.toNat ≠ 111 ∧ w ≠ 115
  | _ => False
def V122 : List PV → Mach → Nat → Out × M := fun vs s g => match vs with
  | [.mach, .int w] => off s g (exec s w.toNat)
  | _ => (.ok .non, enc s g)
def D122 : Def := mD P122 V122
def P123 : List PV → Mach → Prop := fun vs s => match vs with
  | [.mach] => True
  | _ => False
def V123 : List PV → Mach → Nat → Out × M := fun vs s g => match vs with
  | [.mach] => (.ok (.bl (decide (s.pc = 4 * s.words.length))), enc s g)
  | _ => (.ok .non, enc s g)
def D123 : Def := mD P123 V123
def P124 : List PV → Mach → Prop := fun vs s => match vs with
  | [.mach] => s.pc ≠ 4 * s.words.length
  | _ => False
def V124 : List PV → Mach → Nat → Out × M := fun vs s g => match vs with
  | [.mach] => (if 4 * s.words.length < s.pc ∨ s.pc % 4 ≠ 0 then .flt 1 s.pc else .ok (.int (s.words.getD (s.pc / 4) 0 : Nat)), enc s g)
  | _ => (.ok .non, enc s g)
def D124 : Def := mD P124 V124
def P125 : List PV → Mach → Prop := fun vs s => match vs with
  | [.mach] => s.pc ≠ 4 * s.words.length
  | _ => False
def V125 : List PV → Mach → Nat → Out × M := fun vs s g => match vs with
  | [.mach] => step_ s g (RvMach.step s)
  | _ => (.ok .non, enc s g)
def D125 : Def := mD P125 V125
def P126 : List PV → Mach → Prop := fun vs s => match vs with
  | [.mach, .int n] => 0 ≤ n ∧ n ≤ 1000
  | _ => False
def V126 : List PV → Mach → Nat → Out × M := fun vs s g => match vs with
  | [.mach, .int n] => (.ok (.tup [((RvMach.run n.toNat s).1 : Nat), ((RvMach.run n.toNat s).2.1 : Nat)]), enc (RvMach.run n.toNat s).2.2 g)
  | _ => (.ok .non, enc s g)
def D126 : Def := mD P126 V126
def P127 : List PV → Mach → Prop := fun vs s => match vs with
  | [.mach, .int q] => 0 ≤ q ∧ q ≤ 68
  | _ => False
def V127 : List PV → Mach → Nat → Out × M := fun vs s g => match vs with
  | [.mach, .int q] => (.ok (.int (((WrrvfpSpec.look s q.toNat).getD 0 : Nat) : Int)), enc s g)
  | _ => (.ok .non, enc s g)
def D127 : Def := mD P127 V127
def P128 : List PV → Mach → Prop := fun vs s => match vs with
  | [.mach, .int q, .int v] => (0 ≤ q ∧ q ≤ 66) ∧ (0 ≤ v ∧ v < 18446744073709551616)
  | _ => False
def V128 : List PV → Mach → Nat → Out × M := fun vs s g => match vs with
  | [.mach, .int q, .int v] => (.ok .non, enc ((WrrvfpSpec.change s q.toNat v.toNat).getD s) g)
  | _ => (.ok .non, enc s g)
def D128 : Def := mD P128 V128
def P129 : List PV → Mach → Prop := fun vs s => match vs with
  | [.mach, .lst l] => ∀ w ∈ l, 0 ≤ w
  | _ => False
def V129 : List PV → Mach → Nat → Out × M := fun vs s g => match vs with
  | [.mach, .lst l] => (.ok .non, enc { s with words := iN l, pc := 0 } g)
  | _ => (.ok .non, enc s g)
def D129 : Def := mD P129 V129
def P130 : List PV → Mach → Prop := fun vs s => match vs with
  | [.mach, .int a, .lst l] => 0 ≤ a ∧ a + l.length ≤ 4096 ∧ ∀ w ∈ l, 0 ≤ w ∧ w ≤ 255
  | _ => False
def V130 : List PV → Mach → Nat → Out × M := fun vs s g => match vs with
  | [.mach, .int a, .lst l] => (.ok .non, enc { s with mem := s.mem.take a.toNat ++ (iB l ++ s.mem.drop (a.toNat + l.length)) } g)
  | _ => (.ok .non, enc s g)
def D130 : Def := mD P130 V130
def P131 : List PV → Mach → Prop := fun vs s => match vs with
  | [.mach, .int q, .lst l] => (6 ≤ q ∧ q ≤ 12) ∧ askN q l ∧ inLim q l = true
  | _ => False
def V131 : List PV → Mach → Nat → Out × M := fun vs s g => match vs with
  | [.mach, .int q, .lst l] => (.ok (.lst (Neutral.told (WrrvfpSpec.step s (callN q l)).2).tail), enc (WrrvfpSpec.step s (callN q l)).1 (if q = 6 then g + 1 else g))
  | _ => (.ok .non, enc s g)
def D131 : Def := mD P131 V131
def D132 : Def := pD (fun vs => match vs with
  | [.lst l, .int a] => sizeOk l a
  | _ => False) (fun vs => match vs with
  | [.lst l, .int a] => .int (sizeN l a)
  | _ => .non)
def D133 : Def := pD (fun vs => match vs with
  | [.int q, .lst l] => (0 ≤ q ∧ q ≤ 12) ∧ askN q l
  | _ => False) (fun vs => match vs with
  | [.int q, .lst l] => .bl (inLim q l)
  | _ => .non)
def D134 : Def := pD (fun vs => match vs with
  | [.int q, .lst l] => (0 ≤ q ∧ q ≤ 5) ∧ askN q l ∧ inLim q l = true
  | _ => False) (fun vs => match vs with
  | [.int q, .lst l] => .lst (Neutral.told (WrrvfpSpec.step blank (callN q l)).2).tail
  | _ => .non)
def P135 : List PV → Mach → Prop := fun vs s => match vs with
  | [.mach, .int q, .lst l] => (0 ≤ q ∧ q ≤ 12) ∧ askN q l
  | _ => False
def V135 : List PV → Mach → Nat → Out × M := fun vs s g => match vs with
  | [.mach, .int q, .lst l] => (.ok (.lst (Neutral.told (WrrvfpSpec.step s (callN q l)).2)), enc (WrrvfpSpec.step s (callN q l)).1 (if q = 6 then g + 1 else g))
  | _ => (.ok .non, enc s g)
def D135 : Def := mD P135 V135
def fnT0 : List Def := [D0, D1, D2, D3, D4, D5, D6, D7, D8, D9]
def fnT1 : List Def := [D10, D11, D12, D13, D14, D15, D16, D17, D18, D19]
def fnT2 : List Def := [D20, D21, D22, D23, D24, D25, D26, D27, D28, D29]
def fnT3 : List Def := [D30, D31, D32, D33, D34, D35, D36, D37, D38, D39]
def fnT4 : List Def := [D40, D41, D42, D43, D44, D45, D46, D47, D48, D49]
def fnT5 : List Def := [D50, D51, D52, D53, D54, D55, D56, D57, D58, D59]
def fnT6 : List Def := [D60, D61, D62, D63, D64, D65, D66, D67, D68, D69]
def fnT7 : List Def := [D70, D71, D72, D73, D74, D75, D76, D77, D78, D79]
def fnT8 : List Def := [D80, D81, D82, D83, D84, D85, D86, D87, D88, D89]
def fnT9 : List Def := [D90, D91, D92, D93, D94, D95, D96, D97, D98, D99]
def fnT10 : List Def := [D100, D101, D102, D103, D104, D105, D106, D107, D108, D109]
def fnT11 : List Def := [D110, D111, D112, D113, D114, D115, D116, D117, D118, D119]
def fnT12 : List Def := [D120, D121, D122, D123, D124, D125, D126, D127, D128, D129]
def fnT13 : List Def := [D130, D131, D132, D133, D134, D135]
def fnT : List Def := fnT0 ++ fnT1 ++ fnT2 ++ fnT3 ++ fnT4 ++ fnT5 ++ fnT6 ++ fnT7 ++ fnT8 ++ fnT9 ++ fnT10 ++ fnT11 ++ fnT12 ++ fnT13
def conV : List Int := [1, 2, 4, 8, 16, 0, 1, 2, 3, 1, 2, 3, 4, 4096, 0, 1, 2, 5, 7, 1, 2, 3, 0, 115, 0, 1, 2, 3, 6, 7, 8, 9, 10, 11, 12, 64, 65, 66, 67, 0, 1, 2, 3, 4, 5]
def ctupV : List (List Int) := [[32, 64, 16], [8, 11, 5], [23, 52, 10], [18446744069414584320, 0, 18446744073709486080], [6, 4, 2, 4, 4, 4, 0, 1, 1, 1, 2, 2, 2]]
def dictV : List (List (Int × PV)) := [[(0, .int 2), (1, .int 1), (2, .int 0), (4, .int 4), (5, .int 3)], [(1, .tup [2, 2]), (2, .tup [0, 4]), (3, .tup [1, 8])]]
def tb : Tab := ⟨fun k => conV.getD k 0, fun k => ctupV.getD k [], fun k => dictV.getD k [], fun j => fnT.getD j D66⟩
theorem c0 {F : FQ} {Q : PQ} {μ : M} {f : Int} : callQ (tb.fn 0) F [.int f] μ Q ↔ (okF f) ∧ Q (.int (fm f).fbits) μ := Iff.rfl
theorem gd0 {kc : Sts} {kS nA : Nat} (hn : 1 = nA) (h : ∀ F (μ : M) (f : Int), (okF f) → exs tb F kc (senv kS [.int f]) μ (fun _ _ => False) (fun v0 m' => v0 = .int (fm f).fbits ∧ m' = μ)) : Good tb (tb.fn 0) nA kS kc := by
  refine pD_good fun F vs m p => ?_
  split at p
  · exact ⟨hn, h F m _ p⟩
  · exact p.elim
theorem c1 {F : FQ} {Q : PQ} {μ : M} {f : Int} : callQ (tb.fn 1) F [.int f] μ Q ↔ (okF f) ∧ Q (.int (fm f).bias) μ := Iff.rfl
theorem gd1 {kc : Sts} {kS nA : Nat} (hn : 1 = nA) (h : ∀ F (μ : M) (f : Int), (okF f) → exs tb F kc (senv kS [.int f]) μ (fun _ _ => False) (fun v0 m' => v0 = .int (fm f).bias ∧ m' = μ)) : Good tb (tb.fn 1) nA kS kc := by
  refine pD_good fun F vs m p => ?_
  split at p
  · exact ⟨hn, h F m _ p⟩
  · exact p.elim
theorem c2 {F : FQ} {Q : PQ} {μ : M} {f : Int} : callQ (tb.fn 2) F [.int f] μ Q ↔ (okF f) ∧ Q (.int (1 - (fm f).bias)) μ := Iff.rfl
theorem gd2 {kc : Sts} {kS nA : Nat} (hn : 1 = nA) (h : ∀ F (μ : M) (f : Int), (okF f) → exs tb F kc (senv kS [.int f]) μ (fun _ _ => False) (fun v0 m' => v0 = .int (1 - (fm f).bias) ∧ m' = μ)) : Good tb (tb.fn 2) nA kS kc := by
  refine pD_good fun F vs m p => ?_
  split at p
  · exact ⟨hn, h F m _ p⟩
  · exact p.elim
theorem c3 {F : FQ} {Q : PQ} {μ : M} {f : Int} {a : Int} : callQ (tb.fn 3) F [.int f, .int a] μ Q ↔ (okF f ∧ 0 ≤ a) ∧ Q (.int (b2i (negOf (fm f) a.toNat))) μ := Iff.rfl
theorem gd3 {kc : Sts} {kS nA : Nat} (hn : 2 = nA) (h : ∀ F (μ : M) (f : Int) (a : Int), (okF f ∧ 0 ≤ a) → exs tb F kc (senv kS [.int f, .int a]) μ (fun _ _ => False) (fun v0 m' => v0 = .int (b2i (negOf (fm f) a.toNat)) ∧ m' = μ)) : Good tb (tb.fn 3) nA kS kc := by
  refine pD_good fun F vs m p => ?_
  split at p
  · exact ⟨hn, h F m _ _ p⟩
  · exact p.elim
theorem c4 {F : FQ} {Q : PQ} {μ : M} {f : Int} {a : Int} : callQ (tb.fn 4) F [.int f, .int a] μ Q ↔ (okF f ∧ 0 ≤ a) ∧ Q (.int ((a.toNat % 2 ^ (fm f).width : Nat) : Int)) μ := Iff.rfl
theorem gd4 {kc : Sts} {kS nA : Nat} (hn : 2 = nA) (h : ∀ F (μ : M) (f : Int) (a : Int), (okF f ∧ 0 ≤ a) → exs tb F kc (senv kS [.int f, .int a]) μ (fun _ _ => False) (fun v0 m' => v0 = .int ((a.toNat % 2 ^ (fm f).width : Nat) : Int) ∧ m' = μ)) : Good tb (tb.fn 4) nA kS kc := by
  refine pD_good fun F vs m p => ?_
  split at p
  · exact ⟨hn, h F m _ _ p⟩
  · exact p.elim
theorem c5 {F : FQ} {Q : PQ} {μ : M} {f : Int} {a : Int} : callQ (tb.fn 5) F [.int f, .int a] μ Q ↔ (okF f ∧ 0 ≤ a) ∧ Q (.int ((a.toNat % (fm f).signBit : Nat) : Int)) μ := Iff.rfl
theorem gd5 {kc : Sts} {kS nA : Nat} (hn : 2 = nA) (h : ∀ F (μ : M) (f : Int) (a : Int), (okF f ∧ 0 ≤ a) → exs tb F kc (senv kS [.int f, .int a]) μ (fun _ _ => False) (fun v0 m' => v0 = .int ((a.toNat % (fm f).signBit : Nat) : Int) ∧ m' = μ)) : Good tb (tb.fn 5) nA kS kc := by
  refine pD_good fun F vs m p => ?_
  split at p
  · exact ⟨hn, h F m _ _ p⟩
  · exact p.elim
theorem c6 {F : FQ} {Q : PQ} {μ : M} {f : Int} {s : Int} {n : Int} : callQ (tb.fn 6) F [.int f, .int s, .int n] μ Q ↔ (okF f ∧ sg s ∧ 0 ≤ n) ∧ Q (.int ((signed (fm f) (decide (s = 1)) n.toNat : Nat) : Int)) μ := Iff.rfl
theorem gd6 {kc : Sts} {kS nA : Nat} (hn : 3 = nA) (h : ∀ F (μ : M) (f : Int) (s : Int) (n : Int), (okF f ∧ sg s ∧ 0 ≤ n) → exs tb F kc (senv kS [.int f, .int s, .int n]) μ (fun _ _ => False) (fun v0 m' => v0 = .int ((signed (fm f) (decide (s = 1)) n.toNat : Nat) : Int) ∧ m' = μ)) : Good tb (tb.fn 6) nA kS kc := by
  refine pD_good fun F vs m p => ?_
  split at p
  · exact ⟨hn, h F m _ _ _ p⟩
  · exact p.elim
theorem c7 {F : FQ} {Q : PQ} {μ : M} {f : Int} {a : Int} : callQ (tb.fn 7) F [.int f, .int a] μ Q ↔ (okF f ∧ 0 ≤ a) ∧ Q (.int ((signed (fm f) (!negOf (fm f) a.toNat) (a.toNat % (fm f).signBit) : Nat) : Int)) μ := Iff.rfl
theorem gd7 {kc : Sts} {kS nA : Nat} (hn : 2 = nA) (h : ∀ F (μ : M) (f : Int) (a : Int), (okF f ∧ 0 ≤ a) → exs tb F kc (senv kS [.int f, .int a]) μ (fun _ _ => False) (fun v0 m' => v0 = .int ((signed (fm f) (!negOf (fm f) a.toNat) (a.toNat % (fm f).signBit) : Nat) : Int) ∧ m' = μ)) : Good tb (tb.fn 7) nA kS kc := by
  refine pD_good fun F vs m p => ?_
  split at p
  · exact ⟨hn, h F m _ _ p⟩
  · exact p.elim
theorem c8 {F : FQ} {Q : PQ} {μ : M} {f : Int} : callQ (tb.fn 8) F [.int f] μ Q ↔ (okF f) ∧ Q (.int ((fm f).infinity : Nat)) μ := Iff.rfl
theorem gd8 {kc : Sts} {kS nA : Nat} (hn : 1 = nA) (h : ∀ F (μ : M) (f : Int), (okF f) → exs tb F kc (senv kS [.int f]) μ (fun _ _ => False) (fun v0 m' => v0 = .int ((fm f).infinity : Nat) ∧ m' = μ)) : Good tb (tb.fn 8) nA kS kc := by
  refine pD_good fun F vs m p => ?_
  split at p
  · exact ⟨hn, h F m _ p⟩
  · exact p.elim
theorem c9 {F : FQ} {Q : PQ} {μ : M} {f : Int} {a : Int} : callQ (tb.fn 9) F [.int f, .int a] μ Q ↔ (okF f ∧ 0 ≤ a) ∧ Q (.bl (isNan (num (fm f) a.toNat))) μ := Iff.rfl
theorem gd9 {kc : Sts} {kS nA : Nat} (hn : 2 = nA) (h : ∀ F (μ : M) (f : Int) (a : Int), (okF f ∧ 0 ≤ a) → exs tb F kc (senv kS [.int f, .int a]) μ (fun _ _ => False) (fun v0 m' => v0 = .bl (isNan (num (fm f) a.toNat)) ∧ m' = μ)) : Good tb (tb.fn 9) nA kS kc := by
  refine pD_good fun F vs m p => ?_
  split at p
  · exact ⟨hn, h F m _ _ p⟩
  · exact p.elim
theorem c10 {F : FQ} {Q : PQ} {μ : M} {f : Int} {a : Int} : callQ (tb.fn 10) F [.int f, .int a] μ Q ↔ (okF f ∧ 0 ≤ a) ∧ Q (.bl (signals (num (fm f) a.toNat))) μ := Iff.rfl
theorem gd10 {kc : Sts} {kS nA : Nat} (hn : 2 = nA) (h : ∀ F (μ : M) (f : Int) (a : Int), (okF f ∧ 0 ≤ a) → exs tb F kc (senv kS [.int f, .int a]) μ (fun _ _ => False) (fun v0 m' => v0 = .bl (signals (num (fm f) a.toNat)) ∧ m' = μ)) : Good tb (tb.fn 10) nA kS kc := by
  refine pD_good fun F vs m p => ?_
  split at p
  · exact ⟨hn, h F m _ _ p⟩
  · exact p.elim
theorem c11 {F : FQ} {Q : PQ} {μ : M} {f : Int} {a : Int} : callQ (tb.fn 11) F [.int f, .int a] μ Q ↔ (okF f ∧ 0 ≤ a) ∧ Q (.bl (isInf (num (fm f) a.toNat))) μ := Iff.rfl
theorem gd11 {kc : Sts} {kS nA : Nat} (hn : 2 = nA) (h : ∀ F (μ : M) (f : Int) (a : Int), (okF f ∧ 0 ≤ a) → exs tb F kc (senv kS [.int f, .int a]) μ (fun _ _ => False) (fun v0 m' => v0 = .bl (isInf (num (fm f) a.toNat)) ∧ m' = μ)) : Good tb (tb.fn 11) nA kS kc := by
  refine pD_good fun F vs m p => ?_
  split at p
  · exact ⟨hn, h F m _ _ p⟩
  · exact p.elim
theorem c12 {F : FQ} {Q : PQ} {μ : M} {f : Int} {a : Int} : callQ (tb.fn 12) F [.int f, .int a] μ Q ↔ (okF f ∧ 0 ≤ a) ∧ Q (.bl (isZero (num (fm f) a.toNat))) μ := Iff.rfl
theorem gd12 {kc : Sts} {kS nA : Nat} (hn : 2 = nA) (h : ∀ F (μ : M) (f : Int) (a : Int), (okF f ∧ 0 ≤ a) → exs tb F kc (senv kS [.int f, .int a]) μ (fun _ _ => False) (fun v0 m' => v0 = .bl (isZero (num (fm f) a.toNat)) ∧ m' = μ)) : Good tb (tb.fn 12) nA kS kc := by
  refine pD_good fun F vs m p => ?_
  split at p
  · exact ⟨hn, h F m _ _ p⟩
  · exact p.elim
theorem c13 {F : FQ} {Q : PQ} {μ : M} {f : Int} {a : Int} : callQ (tb.fn 13) F [.int f, .int a] μ Q ↔ (okF f ∧ 0 ≤ a) ∧ Q (.bl (decide (0 < a.toNat % (fm f).signBit ∧ a.toNat % (fm f).signBit < 2 ^ (fm f).fbits))) μ := Iff.rfl
theorem gd13 {kc : Sts} {kS nA : Nat} (hn : 2 = nA) (h : ∀ F (μ : M) (f : Int) (a : Int), (okF f ∧ 0 ≤ a) → exs tb F kc (senv kS [.int f, .int a]) μ (fun _ _ => False) (fun v0 m' => v0 = .bl (decide (0 < a.toNat % (fm f).signBit ∧ a.toNat % (fm f).signBit < 2 ^ (fm f).fbits)) ∧ m' = μ)) : Good tb (tb.fn 13) nA kS kc := by
  refine pD_good fun F vs m p => ?_
  split at p
  · exact ⟨hn, h F m _ _ p⟩
  · exact p.elim
theorem c14 {F : FQ} {Q : PQ} {μ : M} {f : Int} {s : Int} : callQ (tb.fn 14) F [.int f, .int s] μ Q ↔ (okF f ∧ sg s) ∧ Q (.int ((signed (fm f) (decide (s = 1)) 0 : Nat) : Int)) μ := Iff.rfl
theorem gd14 {kc : Sts} {kS nA : Nat} (hn : 2 = nA) (h : ∀ F (μ : M) (f : Int) (s : Int), (okF f ∧ sg s) → exs tb F kc (senv kS [.int f, .int s]) μ (fun _ _ => False) (fun v0 m' => v0 = .int ((signed (fm f) (decide (s = 1)) 0 : Nat) : Int) ∧ m' = μ)) : Good tb (tb.fn 14) nA kS kc := by
  refine pD_good fun F vs m p => ?_
  split at p
  · exact ⟨hn, h F m _ _ p⟩
  · exact p.elim
theorem c15 {F : FQ} {Q : PQ} {μ : M} {f : Int} {s : Int} : callQ (tb.fn 15) F [.int f, .int s] μ Q ↔ (okF f ∧ sg s) ∧ Q (.int ((signed (fm f) (decide (s = 1)) (fm f).infinity : Nat) : Int)) μ := Iff.rfl
theorem gd15 {kc : Sts} {kS nA : Nat} (hn : 2 = nA) (h : ∀ F (μ : M) (f : Int) (s : Int), (okF f ∧ sg s) → exs tb F kc (senv kS [.int f, .int s]) μ (fun _ _ => False) (fun v0 m' => v0 = .int ((signed (fm f) (decide (s = 1)) (fm f).infinity : Nat) : Int) ∧ m' = μ)) : Good tb (tb.fn 15) nA kS kc := by
  refine pD_good fun F vs m p => ?_
  split at p
  · exact ⟨hn, h F m _ _ p⟩
  · exact p.elim
theorem c16 {F : FQ} {Q : PQ} {μ : M} {f : Int} {s : Int} : callQ (tb.fn 16) F [.int f, .int s] μ Q ↔ (okF f ∧ sg s) ∧ Q (.int ((signed (fm f) (decide (s = 1)) ((fm f).infinity - 1) : Nat) : Int)) μ := Iff.rfl
theorem gd16 {kc : Sts} {kS nA : Nat} (hn : 2 = nA) (h : ∀ F (μ : M) (f : Int) (s : Int), (okF f ∧ sg s) → exs tb F kc (senv kS [.int f, .int s]) μ (fun _ _ => False) (fun v0 m' => v0 = .int ((signed (fm f) (decide (s = 1)) ((fm f).infinity - 1) : Nat) : Int) ∧ m' = μ)) : Good tb (tb.fn 16) nA kS kc := by
  refine pD_good fun F vs m p => ?_
  split at p
  · exact ⟨hn, h F m _ _ p⟩
  · exact p.elim
theorem c17 {F : FQ} {Q : PQ} {μ : M} {f : Int} : callQ (tb.fn 17) F [.int f] μ Q ↔ (okF f) ∧ Q (.int ((fm f).canonical : Nat)) μ := Iff.rfl
theorem gd17 {kc : Sts} {kS nA : Nat} (hn : 1 = nA) (h : ∀ F (μ : M) (f : Int), (okF f) → exs tb F kc (senv kS [.int f]) μ (fun _ _ => False) (fun v0 m' => v0 = .int ((fm f).canonical : Nat) ∧ m' = μ)) : Good tb (tb.fn 17) nA kS kc := by
  refine pD_good fun F vs m p => ?_
  split at p
  · exact ⟨hn, h F m _ p⟩
  · exact p.elim
theorem c18 {F : FQ} {Q : PQ} {μ : M} {f : Int} {a : Int} : callQ (tb.fn 18) F [.int f, .int a] μ Q ↔ (okF f ∧ 0 ≤ a) ∧ Q (.tup [b2i (negOf (fm f) a.toNat), (pM (fm f) a.toNat : Nat), pE (fm f) a.toNat]) μ := Iff.rfl
theorem gd18 {kc : Sts} {kS nA : Nat} (hn : 2 = nA) (h : ∀ F (μ : M) (f : Int) (a : Int), (okF f ∧ 0 ≤ a) → exs tb F kc (senv kS [.int f, .int a]) μ (fun _ _ => False) (fun v0 m' => v0 = .tup [b2i (negOf (fm f) a.toNat), (pM (fm f) a.toNat : Nat), pE (fm f) a.toNat] ∧ m' = μ)) : Good tb (tb.fn 18) nA kS kc := by
  refine pD_good fun F vs m p => ?_
  split at p
  · exact ⟨hn, h F m _ _ p⟩
  · exact p.elim
theorem c19 {F : FQ} {Q : PQ} {μ : M} {f : Int} {l : List Int} : callQ (tb.fn 19) F [.int f, .tup l] μ Q ↔ (okF f ∧ ∀ a ∈ l, 0 ≤ a) ∧ Q (.int (if (l.map fun a => num (fm f) a.toNat).any signals = true then 16 else 0)) μ := Iff.rfl
theorem gd19 {kc : Sts} {kS nA : Nat} (hn : 2 = nA) (h : ∀ F (μ : M) (f : Int) (l : List Int), (okF f ∧ ∀ a ∈ l, 0 ≤ a) → exs tb F kc (senv kS [.int f, .tup l]) μ (fun _ _ => False) (fun v0 m' => v0 = .int (if (l.map fun a => num (fm f) a.toNat).any signals = true then 16 else 0) ∧ m' = μ)) : Good tb (tb.fn 19) nA kS kc := by
  refine pD_good fun F vs m p => ?_
  split at p
  · exact ⟨hn, h F m _ _ p⟩
  · exact p.elim
theorem c20 {F : FQ} {Q : PQ} {μ : M} {f : Int} {a : Int} : callQ (tb.fn 20) F [.int f, .int a] μ Q ↔ (okF f ∧ 0 ≤ a) ∧ Q (.int (pl (fm f) a.toNat)) μ := Iff.rfl
theorem gd20 {kc : Sts} {kS nA : Nat} (hn : 2 = nA) (h : ∀ F (μ : M) (f : Int) (a : Int), (okF f ∧ 0 ≤ a) → exs tb F kc (senv kS [.int f, .int a]) μ (fun _ _ => False) (fun v0 m' => v0 = .int (pl (fm f) a.toNat) ∧ m' = μ)) : Good tb (tb.fn 20) nA kS kc := by
  refine pD_good fun F vs m p => ?_
  split at p
  · exact ⟨hn, h F m _ _ p⟩
  · exact p.elim
theorem c21 {F : FQ} {Q : PQ} {μ : M} {f : Int} {a : Int} {b : Int} : callQ (tb.fn 21) F [.int f, .int a, .int b] μ Q ↔ (okF f ∧ 0 ≤ a ∧ 0 ≤ b) ∧ Q (.bl (goesN (fm f) a.toNat b.toNat)) μ := Iff.rfl
theorem gd21 {kc : Sts} {kS nA : Nat} (hn : 3 = nA) (h : ∀ F (μ : M) (f : Int) (a : Int) (b : Int), (okF f ∧ 0 ≤ a ∧ 0 ≤ b) → exs tb F kc (senv kS [.int f, .int a, .int b]) μ (fun _ _ => False) (fun v0 m' => v0 = .bl (goesN (fm f) a.toNat b.toNat) ∧ m' = μ)) : Good tb (tb.fn 21) nA kS kc := by
  refine pD_good fun F vs m p => ?_
  split at p
  · exact ⟨hn, h F m _ _ _ p⟩
  · exact p.elim
theorem c22 {F : FQ} {Q : PQ} {μ : M} {f : Int} {g : Bool} {a : Int} {b : Int} : callQ (tb.fn 22) F [.int f, .bl g, .int a, .int b] μ Q ↔ (okF f ∧ 0 ≤ a ∧ 0 ≤ b) ∧ Q (.int ((chN (fm f) g a.toNat b.toNat : Nat) : Int)) μ := Iff.rfl
theorem gd22 {kc : Sts} {kS nA : Nat} (hn : 4 = nA) (h : ∀ F (μ : M) (f : Int) (g : Bool) (a : Int) (b : Int), (okF f ∧ 0 ≤ a ∧ 0 ≤ b) → exs tb F kc (senv kS [.int f, .bl g, .int a, .int b]) μ (fun _ _ => False) (fun v0 m' => v0 = .int ((chN (fm f) g a.toNat b.toNat : Nat) : Int) ∧ m' = μ)) : Good tb (tb.fn 22) nA kS kc := by
  refine pD_good fun F vs m p => ?_
  split at p
  · exact ⟨hn, h F m _ _ _ _ p⟩
  · exact p.elim
theorem c23 {F : FQ} {Q : PQ} {μ : M} {f : Int} {g : Bool} {a : Int} {b : Int} : callQ (tb.fn 23) F [.int f, .bl g, .int a, .int b] μ Q ↔ (okF f ∧ 0 ≤ a ∧ 0 ≤ b) ∧ Q (t2 (if g = true then fmax (fm f) (a.toNat % 2 ^ (fm f).width) (b.toNat % 2 ^ (fm f).width) else fmin (fm f) (a.toNat % 2 ^ (fm f).width) (b.toNat % 2 ^ (fm f).width))) μ := Iff.rfl
theorem gd23 {kc : Sts} {kS nA : Nat} (hn : 4 = nA) (h : ∀ F (μ : M) (f : Int) (g : Bool) (a : Int) (b : Int), (okF f ∧ 0 ≤ a ∧ 0 ≤ b) → exs tb F kc (senv kS [.int f, .bl g, .int a, .int b]) μ (fun _ _ => False) (fun v0 m' => v0 = t2 (if g = true then fmax (fm f) (a.toNat % 2 ^ (fm f).width) (b.toNat % 2 ^ (fm f).width) else fmin (fm f) (a.toNat % 2 ^ (fm f).width) (b.toNat % 2 ^ (fm f).width)) ∧ m' = μ)) : Good tb (tb.fn 23) nA kS kc := by
  refine pD_good fun F vs m p => ?_
  split at p
  · exact ⟨hn, h F m _ _ _ _ p⟩
  · exact p.elim
theorem c24 {F : FQ} {Q : PQ} {μ : M} {f : Int} {o : Int} {a : Int} {b : Int} : callQ (tb.fn 24) F [.int f, .int o, .int a, .int b] μ Q ↔ (okF f ∧ (11 ≤ o ∧ o ≤ 13) ∧ 0 ≤ a ∧ 0 ≤ b) ∧ Q (t2 (RvNum.op f.toNat o.toNat 0 a.toNat b.toNat 0)) μ := Iff.rfl
theorem gd24 {kc : Sts} {kS nA : Nat} (hn : 4 = nA) (h : ∀ F (μ : M) (f : Int) (o : Int) (a : Int) (b : Int), (okF f ∧ (11 ≤ o ∧ o ≤ 13) ∧ 0 ≤ a ∧ 0 ≤ b) → exs tb F kc (senv kS [.int f, .int o, .int a, .int b]) μ (fun _ _ => False) (fun v0 m' => v0 = t2 (RvNum.op f.toNat o.toNat 0 a.toNat b.toNat 0) ∧ m' = μ)) : Good tb (tb.fn 24) nA kS kc := by
  refine pD_good fun F vs m p => ?_
  split at p
  · exact ⟨hn, h F m _ _ _ _ p⟩
  · exact p.elim
theorem c25 {F : FQ} {Q : PQ} {μ : M} {f : Int} {k : Int} {a : Int} {b : Int} : callQ (tb.fn 25) F [.int f, .int k, .int a, .int b] μ Q ↔ (okF f ∧ 0 ≤ a ∧ 0 ≤ b) ∧ Q (t2 (0, if k = 1 ∨ k = 2 then 16 else if signals (num (fm f) a.toNat) = true ∨ signals (num (fm f) b.toNat) = true then 16 else 0)) μ := Iff.rfl
theorem gd25 {kc : Sts} {kS nA : Nat} (hn : 4 = nA) (h : ∀ F (μ : M) (f : Int) (k : Int) (a : Int) (b : Int), (okF f ∧ 0 ≤ a ∧ 0 ≤ b) → exs tb F kc (senv kS [.int f, .int k, .int a, .int b]) μ (fun _ _ => False) (fun v0 m' => v0 = t2 (0, if k = 1 ∨ k = 2 then 16 else if signals (num (fm f) a.toNat) = true ∨ signals (num (fm f) b.toNat) = true then 16 else 0) ∧ m' = μ)) : Good tb (tb.fn 25) nA kS kc := by
  refine pD_good fun F vs m p => ?_
  split at p
  · exact ⟨hn, h F m _ _ _ _ p⟩
  · exact p.elim
theorem c26 {F : FQ} {Q : PQ} {μ : M} {f : Int} {k : Int} {a : Int} {b : Int} : callQ (tb.fn 26) F [.int f, .int k, .int a, .int b] μ Q ↔ (okF f ∧ 0 ≤ a ∧ 0 ≤ b) ∧ Q (.bl (if k = 0 then decide (pl (fm f) a.toNat = pl (fm f) b.toNat) else if k = 1 ∨ k = 3 then decide (pl (fm f) a.toNat < pl (fm f) b.toNat) else decide (pl (fm f) a.toNat ≤ pl (fm f) b.toNat))) μ := Iff.rfl
theorem gd26 {kc : Sts} {kS nA : Nat} (hn : 4 = nA) (h : ∀ F (μ : M) (f : Int) (k : Int) (a : Int) (b : Int), (okF f ∧ 0 ≤ a ∧ 0 ≤ b) → exs tb F kc (senv kS [.int f, .int k, .int a, .int b]) μ (fun _ _ => False) (fun v0 m' => v0 = .bl (if k = 0 then decide (pl (fm f) a.toNat = pl (fm f) b.toNat) else if k = 1 ∨ k = 3 then decide (pl (fm f) a.toNat < pl (fm f) b.toNat) else decide (pl (fm f) a.toNat ≤ pl (fm f) b.toNat)) ∧ m' = μ)) : Good tb (tb.fn 26) nA kS kc := by
  refine pD_good fun F vs m p => ?_
  split at p
  · exact ⟨hn, h F m _ _ _ _ p⟩
  · exact p.elim
theorem c27 {F : FQ} {Q : PQ} {μ : M} {f : Int} {k : Int} {a : Int} {b : Int} : callQ (tb.fn 27) F [.int f, .int k, .int a, .int b] μ Q ↔ (okF f ∧ (0 ≤ k ∧ k ≤ 4) ∧ 0 ≤ a ∧ 0 ≤ b) ∧ Q (t2 (RvNum.compare f.toNat k.toNat a.toNat b.toNat)) μ := Iff.rfl
theorem gd27 {kc : Sts} {kS nA : Nat} (hn : 4 = nA) (h : ∀ F (μ : M) (f : Int) (k : Int) (a : Int) (b : Int), (okF f ∧ (0 ≤ k ∧ k ≤ 4) ∧ 0 ≤ a ∧ 0 ≤ b) → exs tb F kc (senv kS [.int f, .int k, .int a, .int b]) μ (fun _ _ => False) (fun v0 m' => v0 = t2 (RvNum.compare f.toNat k.toNat a.toNat b.toNat) ∧ m' = μ)) : Good tb (tb.fn 27) nA kS kc := by
  refine pD_good fun F vs m p => ?_
  split at p
  · exact ⟨hn, h F m _ _ _ _ p⟩
  · exact p.elim
theorem c28 {F : FQ} {Q : PQ} {μ : M} {f : Int} {a : Int} : callQ (tb.fn 28) F [.int f, .int a] μ Q ↔ (okF f ∧ 0 ≤ a) ∧ Q (.int (belowN (fm f) a.toNat)) μ := Iff.rfl
theorem gd28 {kc : Sts} {kS nA : Nat} (hn : 2 = nA) (h : ∀ F (μ : M) (f : Int) (a : Int), (okF f ∧ 0 ≤ a) → exs tb F kc (senv kS [.int f, .int a]) μ (fun _ _ => False) (fun v0 m' => v0 = .int (belowN (fm f) a.toNat) ∧ m' = μ)) : Good tb (tb.fn 28) nA kS kc := by
  refine pD_good fun F vs m p => ?_
  split at p
  · exact ⟨hn, h F m _ _ p⟩
  · exact p.elim
theorem c29 {F : FQ} {Q : PQ} {μ : M} {f : Int} {a : Int} : callQ (tb.fn 29) F [.int f, .int a] μ Q ↔ (okF f ∧ 0 ≤ a) ∧ Q (.int ((classOf f.toNat a.toNat : Nat) : Int)) μ := Iff.rfl
theorem gd29 {kc : Sts} {kS nA : Nat} (hn : 2 = nA) (h : ∀ F (μ : M) (f : Int) (a : Int), (okF f ∧ 0 ≤ a) → exs tb F kc (senv kS [.int f, .int a]) μ (fun _ _ => False) (fun v0 m' => v0 = .int ((classOf f.toNat a.toNat : Nat) : Int) ∧ m' = μ)) : Good tb (tb.fn 29) nA kS kc := by
  refine pD_good fun F vs m p => ?_
  split at p
  · exact ⟨hn, h F m _ _ p⟩
  · exact p.elim
theorem c30 {F : FQ} {Q : PQ} {μ : M} {m : Int} {s : Int} {k : Int} {r : Int} {d : Int} : callQ (tb.fn 30) F [.int m, .int s, .int k, .int r, .int d] μ Q ↔ (0 ≤ k) ∧ Q (.bl (growN m s k r d)) μ := Iff.rfl
theorem gd30 {kc : Sts} {kS nA : Nat} (hn : 5 = nA) (h : ∀ F (μ : M) (m : Int) (s : Int) (k : Int) (r : Int) (d : Int), (0 ≤ k) → exs tb F kc (senv kS [.int m, .int s, .int k, .int r, .int d]) μ (fun _ _ => False) (fun v0 m' => v0 = .bl (growN m s k r d) ∧ m' = μ)) : Good tb (tb.fn 30) nA kS kc := by
  refine pD_good fun F vs m p => ?_
  split at p
  · exact ⟨hn, h F m _ _ _ _ _ p⟩
  · exact p.elim
theorem c31 {F : FQ} {Q : PQ} {μ : M} {m : Int} {s : Int} {n : Int} {d : Int} : callQ (tb.fn 31) F [.int m, .int s, .int n, .int d] μ Q ↔ (okM0 m ∧ sg s ∧ (0 ≤ n ∧ ibits n ≤ 10000) ∧ (-10000 ≤ d ∧ d ≤ 10000)) ∧ Q (.int ((RvNum.rounded m.toNat (decide (s = 1)) (ratioAt n.toNat 1 (-d) 0) : Nat) : Int)) μ := Iff.rfl
theorem gd31 {kc : Sts} {kS nA : Nat} (hn : 4 = nA) (h : ∀ F (μ : M) (m : Int) (s : Int) (n : Int) (d : Int), (okM0 m ∧ sg s ∧ (0 ≤ n ∧ ibits n ≤ 10000) ∧ (-10000 ≤ d ∧ d ≤ 10000)) → exs tb F kc (senv kS [.int m, .int s, .int n, .int d]) μ (fun _ _ => False) (fun v0 m' => v0 = .int ((RvNum.rounded m.toNat (decide (s = 1)) (ratioAt n.toNat 1 (-d) 0) : Nat) : Int) ∧ m' = μ)) : Good tb (tb.fn 31) nA kS kc := by
  refine pD_good fun F vs m p => ?_
  split at p
  · exact ⟨hn, h F m _ _ _ _ p⟩
  · exact p.elim
theorem c32 {F : FQ} {Q : PQ} {μ : M} {n : Int} {d : Int} : callQ (tb.fn 32) F [.int n, .int d] μ Q ↔ ((0 ≤ n ∧ ibits n ≤ 10000) ∧ (-10000 ≤ d ∧ d ≤ 10000)) ∧ Q (.bl (decide ((ratioAt n.toNat 1 (-d) 0).2 = 0))) μ := Iff.rfl
theorem gd32 {kc : Sts} {kS nA : Nat} (hn : 2 = nA) (h : ∀ F (μ : M) (n : Int) (d : Int), ((0 ≤ n ∧ ibits n ≤ 10000) ∧ (-10000 ≤ d ∧ d ≤ 10000)) → exs tb F kc (senv kS [.int n, .int d]) μ (fun _ _ => False) (fun v0 m' => v0 = .bl (decide ((ratioAt n.toNat 1 (-d) 0).2 = 0)) ∧ m' = μ)) : Good tb (tb.fn 32) nA kS kc := by
  refine pD_good fun F vs m p => ?_
  split at p
  · exact ⟨hn, h F m _ _ p⟩
  · exact p.elim
theorem c33 {F : FQ} {Q : PQ} {μ : M} {f : Int} {m : Int} {s : Int} {n : Int} {k : Int} : callQ (tb.fn 33) F [.int f, .int m, .int s, .int n, .int k] μ Q ↔ (okF f ∧ okM0 m ∧ sg s ∧ (0 < n ∧ ibits n ≤ 4900) ∧ (-4900 ≤ k ∧ k ≤ 4900)) ∧ Q (.bl (tiny (fm f) m.toNat (decide (s = 1)) (ratio n.toNat 1 k))) μ := Iff.rfl
theorem gd33 {kc : Sts} {kS nA : Nat} (hn : 5 = nA) (h : ∀ F (μ : M) (f : Int) (m : Int) (s : Int) (n : Int) (k : Int), (okF f ∧ okM0 m ∧ sg s ∧ (0 < n ∧ ibits n ≤ 4900) ∧ (-4900 ≤ k ∧ k ≤ 4900)) → exs tb F kc (senv kS [.int f, .int m, .int s, .int n, .int k]) μ (fun _ _ => False) (fun v0 m' => v0 = .bl (tiny (fm f) m.toNat (decide (s = 1)) (ratio n.toNat 1 k)) ∧ m' = μ)) : Good tb (tb.fn 33) nA kS kc := by
  refine pD_good fun F vs m p => ?_
  split at p
  · exact ⟨hn, h F m _ _ _ _ _ p⟩
  · exact p.elim
theorem c34 {F : FQ} {Q : PQ} {μ : M} {f : Int} {m : Int} {s : Int} : callQ (tb.fn 34) F [.int f, .int m, .int s] μ Q ↔ (okF f ∧ okM0 m ∧ sg s) ∧ Q (t2 (beyond (fm f) m.toNat (decide (s = 1)), 5)) μ := Iff.rfl
theorem gd34 {kc : Sts} {kS nA : Nat} (hn : 3 = nA) (h : ∀ F (μ : M) (f : Int) (m : Int) (s : Int), (okF f ∧ okM0 m ∧ sg s) → exs tb F kc (senv kS [.int f, .int m, .int s]) μ (fun _ _ => False) (fun v0 m' => v0 = t2 (beyond (fm f) m.toNat (decide (s = 1)), 5) ∧ m' = μ)) : Good tb (tb.fn 34) nA kS kc := by
  refine pD_good fun F vs m p => ?_
  split at p
  · exact ⟨hn, h F m _ _ _ p⟩
  · exact p.elim
theorem c35 {F : FQ} {Q : PQ} {μ : M} {f : Int} {m : Int} {s : Int} {n : Int} {k : Int} : callQ (tb.fn 35) F [.int f, .int m, .int s, .int n, .int k] μ Q ↔ (okF f ∧ okM0 m ∧ sg s ∧ (0 < n ∧ ibits n ≤ 4900) ∧ (-4900 ≤ k ∧ k ≤ 4900)) ∧ Q (t2 (RvNum.round (fm f) m.toNat (decide (s = 1)) (ratio n.toNat 1 k))) μ := Iff.rfl
theorem gd35 {kc : Sts} {kS nA : Nat} (hn : 5 = nA) (h : ∀ F (μ : M) (f : Int) (m : Int) (s : Int) (n : Int) (k : Int), (okF f ∧ okM0 m ∧ sg s ∧ (0 < n ∧ ibits n ≤ 4900) ∧ (-4900 ≤ k ∧ k ≤ 4900)) → exs tb F kc (senv kS [.int f, .int m, .int s, .int n, .int k]) μ (fun _ _ => False) (fun v0 m' => v0 = t2 (RvNum.round (fm f) m.toNat (decide (s = 1)) (ratio n.toNat 1 k)) ∧ m' = μ)) : Good tb (tb.fn 35) nA kS kc := by
  refine pD_good fun F vs m p => ?_
  split at p
  · exact ⟨hn, h F m _ _ _ _ _ p⟩
  · exact p.elim
theorem c36 {F : FQ} {Q : PQ} {μ : M} {f : Int} : callQ (tb.fn 36) F [.int f] μ Q ↔ (okF f) ∧ Q (t2 (RvNum.invalid (fm f))) μ := Iff.rfl
theorem gd36 {kc : Sts} {kS nA : Nat} (hn : 1 = nA) (h : ∀ F (μ : M) (f : Int), (okF f) → exs tb F kc (senv kS [.int f]) μ (fun _ _ => False) (fun v0 m' => v0 = t2 (RvNum.invalid (fm f)) ∧ m' = μ)) : Good tb (tb.fn 36) nA kS kc := by
  refine pD_good fun F vs m p => ?_
  split at p
  · exact ⟨hn, h F m _ p⟩
  · exact p.elim
theorem c37 {F : FQ} {Q : PQ} {μ : M} {f : Int} {l : List Int} : callQ (tb.fn 37) F [.int f, .tup l] μ Q ↔ (okF f ∧ ∀ a ∈ l, 0 ≤ a) ∧ Q (t2 (nans (fm f) (l.map fun a => num (fm f) a.toNat))) μ := Iff.rfl
theorem gd37 {kc : Sts} {kS nA : Nat} (hn : 2 = nA) (h : ∀ F (μ : M) (f : Int) (l : List Int), (okF f ∧ ∀ a ∈ l, 0 ≤ a) → exs tb F kc (senv kS [.int f, .tup l]) μ (fun _ _ => False) (fun v0 m' => v0 = t2 (nans (fm f) (l.map fun a => num (fm f) a.toNat)) ∧ m' = μ)) : Good tb (tb.fn 37) nA kS kc := by
  refine pD_good fun F vs m p => ?_
  split at p
  · exact ⟨hn, h F m _ _ p⟩
  · exact p.elim
theorem c38 {F : FQ} {Q : PQ} {μ : M} {f : Int} {m : Int} {x : List Int} {y : List Int} : callQ (tb.fn 38) F [.int f, .int m, .tup x, .tup y] μ Q ↔ (okF f ∧ okM0 m ∧ okP x ∧ okP y) ∧ Q (t2 (RvNum.sum (fm f) m.toNat (decide (x.getD 0 0 = 1)) (x.getD 1 0).toNat (x.getD 2 0) (decide (y.getD 0 0 = 1)) (y.getD 1 0).toNat (y.getD 2 0))) μ := Iff.rfl
theorem gd38 {kc : Sts} {kS nA : Nat} (hn : 4 = nA) (h : ∀ F (μ : M) (f : Int) (m : Int) (x : List Int) (y : List Int), (okF f ∧ okM0 m ∧ okP x ∧ okP y) → exs tb F kc (senv kS [.int f, .int m, .tup x, .tup y]) μ (fun _ _ => False) (fun v0 m' => v0 = t2 (RvNum.sum (fm f) m.toNat (decide (x.getD 0 0 = 1)) (x.getD 1 0).toNat (x.getD 2 0) (decide (y.getD 0 0 = 1)) (y.getD 1 0).toNat (y.getD 2 0)) ∧ m' = μ)) : Good tb (tb.fn 38) nA kS kc := by
  refine pD_good fun F vs m p => ?_
  split at p
  · exact ⟨hn, h F m _ _ _ _ p⟩
  · exact p.elim
theorem c39 {F : FQ} {Q : PQ} {μ : M} {f : Int} {m : Int} {a : Int} {b : Int} : callQ (tb.fn 39) F [.int f, .int m, .int a, .int b] μ Q ↔ (okF f ∧ okM0 m ∧ 0 ≤ a ∧ 0 ≤ b) ∧ Q (t2 (RvNum.add (fm f) m.toNat (num (fm f) a.toNat) (num (fm f) b.toNat))) μ := Iff.rfl
theorem gd39 {kc : Sts} {kS nA : Nat} (hn : 4 = nA) (h : ∀ F (μ : M) (f : Int) (m : Int) (a : Int) (b : Int), (okF f ∧ okM0 m ∧ 0 ≤ a ∧ 0 ≤ b) → exs tb F kc (senv kS [.int f, .int m, .int a, .int b]) μ (fun _ _ => False) (fun v0 m' => v0 = t2 (RvNum.add (fm f) m.toNat (num (fm f) a.toNat) (num (fm f) b.toNat)) ∧ m' = μ)) : Good tb (tb.fn 39) nA kS kc := by
  refine pD_good fun F vs m p => ?_
  split at p
  · exact ⟨hn, h F m _ _ _ _ p⟩
  · exact p.elim
theorem c40 {F : FQ} {Q : PQ} {μ : M} {f : Int} {m : Int} {a : Int} {b : Int} : callQ (tb.fn 40) F [.int f, .int m, .int a, .int b] μ Q ↔ (okF f ∧ okM0 m ∧ 0 ≤ a ∧ 0 ≤ b) ∧ Q (t2 (RvNum.sub (fm f) m.toNat (num (fm f) a.toNat) (num (fm f) b.toNat))) μ := Iff.rfl
theorem gd40 {kc : Sts} {kS nA : Nat} (hn : 4 = nA) (h : ∀ F (μ : M) (f : Int) (m : Int) (a : Int) (b : Int), (okF f ∧ okM0 m ∧ 0 ≤ a ∧ 0 ≤ b) → exs tb F kc (senv kS [.int f, .int m, .int a, .int b]) μ (fun _ _ => False) (fun v0 m' => v0 = t2 (RvNum.sub (fm f) m.toNat (num (fm f) a.toNat) (num (fm f) b.toNat)) ∧ m' = μ)) : Good tb (tb.fn 40) nA kS kc := by
  refine pD_good fun F vs m p => ?_
  split at p
  · exact ⟨hn, h F m _ _ _ _ p⟩
  · exact p.elim
theorem c41 {F : FQ} {Q : PQ} {μ : M} {f : Int} {a : Int} {b : Int} : callQ (tb.fn 41) F [.int f, .int a, .int b] μ Q ↔ (okF f ∧ 0 ≤ a ∧ 0 ≤ b) ∧ Q (.bl (infZ (num (fm f) a.toNat) (num (fm f) b.toNat))) μ := Iff.rfl
theorem gd41 {kc : Sts} {kS nA : Nat} (hn : 3 = nA) (h : ∀ F (μ : M) (f : Int) (a : Int) (b : Int), (okF f ∧ 0 ≤ a ∧ 0 ≤ b) → exs tb F kc (senv kS [.int f, .int a, .int b]) μ (fun _ _ => False) (fun v0 m' => v0 = .bl (infZ (num (fm f) a.toNat) (num (fm f) b.toNat)) ∧ m' = μ)) : Good tb (tb.fn 41) nA kS kc := by
  refine pD_good fun F vs m p => ?_
  split at p
  · exact ⟨hn, h F m _ _ _ p⟩
  · exact p.elim
theorem c42 {F : FQ} {Q : PQ} {μ : M} {f : Int} {a : Int} {b : Int} : callQ (tb.fn 42) F [.int f, .int a, .int b] μ Q ↔ (okF f ∧ 0 ≤ a ∧ 0 ≤ b) ∧ Q (.tup [b2i (negOf (fm f) a.toNat != negOf (fm f) b.toNat), ((pM (fm f) a.toNat * pM (fm f) b.toNat : Nat) : Int), pE (fm f) a.toNat + pE (fm f) b.toNat]) μ := Iff.rfl
theorem gd42 {kc : Sts} {kS nA : Nat} (hn : 3 = nA) (h : ∀ F (μ : M) (f : Int) (a : Int) (b : Int), (okF f ∧ 0 ≤ a ∧ 0 ≤ b) → exs tb F kc (senv kS [.int f, .int a, .int b]) μ (fun _ _ => False) (fun v0 m' => v0 = .tup [b2i (negOf (fm f) a.toNat != negOf (fm f) b.toNat), ((pM (fm f) a.toNat * pM (fm f) b.toNat : Nat) : Int), pE (fm f) a.toNat + pE (fm f) b.toNat] ∧ m' = μ)) : Good tb (tb.fn 42) nA kS kc := by
  refine pD_good fun F vs m p => ?_
  split at p
  · exact ⟨hn, h F m _ _ _ p⟩
  · exact p.elim
theorem c43 {F : FQ} {Q : PQ} {μ : M} {f : Int} {m : Int} {a : Int} {b : Int} : callQ (tb.fn 43) F [.int f, .int m, .int a, .int b] μ Q ↔ (okF f ∧ okM0 m ∧ 0 ≤ a ∧ 0 ≤ b) ∧ Q (t2 (RvNum.mul (fm f) m.toNat (num (fm f) a.toNat) (num (fm f) b.toNat))) μ := Iff.rfl
theorem gd43 {kc : Sts} {kS nA : Nat} (hn : 4 = nA) (h : ∀ F (μ : M) (f : Int) (m : Int) (a : Int) (b : Int), (okF f ∧ okM0 m ∧ 0 ≤ a ∧ 0 ≤ b) → exs tb F kc (senv kS [.int f, .int m, .int a, .int b]) μ (fun _ _ => False) (fun v0 m' => v0 = t2 (RvNum.mul (fm f) m.toNat (num (fm f) a.toNat) (num (fm f) b.toNat)) ∧ m' = μ)) : Good tb (tb.fn 43) nA kS kc := by
  refine pD_good fun F vs m p => ?_
  split at p
  · exact ⟨hn, h F m _ _ _ _ p⟩
  · exact p.elim
theorem c44 {F : FQ} {Q : PQ} {μ : M} {f : Int} : callQ (tb.fn 44) F [.int f] μ Q ↔ (okF f) ∧ Q (.int ((fm f).fbits + 2)) μ := Iff.rfl
theorem gd44 {kc : Sts} {kS nA : Nat} (hn : 1 = nA) (h : ∀ F (μ : M) (f : Int), (okF f) → exs tb F kc (senv kS [.int f]) μ (fun _ _ => False) (fun v0 m' => v0 = .int ((fm f).fbits + 2) ∧ m' = μ)) : Good tb (tb.fn 44) nA kS kc := by
  refine pD_good fun F vs m p => ?_
  split at p
  · exact ⟨hn, h F m _ p⟩
  · exact p.elim
theorem c45 {F : FQ} {Q : PQ} {μ : M} {k : Int} {e : Bool} : callQ (tb.fn 45) F [.int k, .bl e] μ Q ↔ (0 ≤ k ∧ ibits k ≤ 100000) ∧ Q (.int (2 * k + (if e = true then 0 else 1))) μ := Iff.rfl
theorem gd45 {kc : Sts} {kS nA : Nat} (hn : 2 = nA) (h : ∀ F (μ : M) (k : Int) (e : Bool), (0 ≤ k ∧ ibits k ≤ 100000) → exs tb F kc (senv kS [.int k, .bl e]) μ (fun _ _ => False) (fun v0 m' => v0 = .int (2 * k + (if e = true then 0 else 1)) ∧ m' = μ)) : Good tb (tb.fn 45) nA kS kc := by
  refine pD_good fun F vs m p => ?_
  split at p
  · exact ⟨hn, h F m _ _ p⟩
  · exact p.elim
theorem c46 {F : FQ} {Q : PQ} {μ : M} {f : Int} {m : Int} {s : Int} {x : List Int} {y : List Int} : callQ (tb.fn 46) F [.int f, .int m, .int s, .tup x, .tup y] μ Q ↔ (okF f ∧ okM0 m ∧ sg s ∧ okQ x ∧ okQ y) ∧ Q (t2 (RvNum.round (fm f) m.toNat (decide (s = 1)) (ratio (x.getD 0 0).toNat (y.getD 0 0).toNat (x.getD 1 0 - y.getD 1 0)))) μ := Iff.rfl
theorem gd46 {kc : Sts} {kS nA : Nat} (hn : 5 = nA) (h : ∀ F (μ : M) (f : Int) (m : Int) (s : Int) (x : List Int) (y : List Int), (okF f ∧ okM0 m ∧ sg s ∧ okQ x ∧ okQ y) → exs tb F kc (senv kS [.int f, .int m, .int s, .tup x, .tup y]) μ (fun _ _ => False) (fun v0 m' => v0 = t2 (RvNum.round (fm f) m.toNat (decide (s = 1)) (ratio (x.getD 0 0).toNat (y.getD 0 0).toNat (x.getD 1 0 - y.getD 1 0))) ∧ m' = μ)) : Good tb (tb.fn 46) nA kS kc := by
  refine pD_good fun F vs m p => ?_
  split at p
  · exact ⟨hn, h F m _ _ _ _ _ p⟩
  · exact p.elim
theorem c47 {F : FQ} {Q : PQ} {μ : M} {f : Int} {m : Int} {a : Int} {b : Int} : callQ (tb.fn 47) F [.int f, .int m, .int a, .int b] μ Q ↔ (okF f ∧ okM0 m ∧ 0 ≤ a ∧ 0 ≤ b) ∧ Q (t2 (RvNum.div (fm f) m.toNat (num (fm f) a.toNat) (num (fm f) b.toNat))) μ := Iff.rfl
theorem gd47 {kc : Sts} {kS nA : Nat} (hn : 4 = nA) (h : ∀ F (μ : M) (f : Int) (m : Int) (a : Int) (b : Int), (okF f ∧ okM0 m ∧ 0 ≤ a ∧ 0 ≤ b) → exs tb F kc (senv kS [.int f, .int m, .int a, .int b]) μ (fun _ _ => False) (fun v0 m' => v0 = t2 (RvNum.div (fm f) m.toNat (num (fm f) a.toNat) (num (fm f) b.toNat)) ∧ m' = μ)) : Good tb (tb.fn 47) nA kS kc := by
  refine pD_good fun F vs m p => ?_
  split at p
  · exact ⟨hn, h F m _ _ _ _ p⟩
  · exact p.elim
theorem c48 {F : FQ} {Q : PQ} {μ : M} {n : Int} : callQ (tb.fn 48) F [.int n] μ Q ↔ (0 < n ∧ ibits n ≤ 1000) ∧ Q (.int ((isqrt n.toNat : Nat) : Int)) μ := Iff.rfl
theorem gd48 {kc : Sts} {kS nA : Nat} (hn : 1 = nA) (h : ∀ F (μ : M) (n : Int), (0 < n ∧ ibits n ≤ 1000) → exs tb F kc (senv kS [.int n]) μ (fun _ _ => False) (fun v0 m' => v0 = .int ((isqrt n.toNat : Nat) : Int) ∧ m' = μ)) : Good tb (tb.fn 48) nA kS kc := by
  refine pD_good fun F vs m p => ?_
  split at p
  · exact ⟨hn, h F m _ p⟩
  · exact p.elim
theorem c49 {F : FQ} {Q : PQ} {μ : M} {f : Int} {m : Int} {n : Int} {k : Int} : callQ (tb.fn 49) F [.int f, .int m, .int n, .int k] μ Q ↔ (okF f ∧ okM0 m ∧ (0 < n ∧ ibits n ≤ 100) ∧ (-1200 ≤ k ∧ k ≤ 1200)) ∧ Q (t2 (RvNum.round (fm f) m.toNat false (RvNum.root n.toNat k))) μ := Iff.rfl
theorem gd49 {kc : Sts} {kS nA : Nat} (hn : 4 = nA) (h : ∀ F (μ : M) (f : Int) (m : Int) (n : Int) (k : Int), (okF f ∧ okM0 m ∧ (0 < n ∧ ibits n ≤ 100) ∧ (-1200 ≤ k ∧ k ≤ 1200)) → exs tb F kc (senv kS [.int f, .int m, .int n, .int k]) μ (fun _ _ => False) (fun v0 m' => v0 = t2 (RvNum.round (fm f) m.toNat false (RvNum.root n.toNat k)) ∧ m' = μ)) : Good tb (tb.fn 49) nA kS kc := by
  refine pD_good fun F vs m p => ?_
  split at p
  · exact ⟨hn, h F m _ _ _ _ p⟩
  · exact p.elim
theorem c50 {F : FQ} {Q : PQ} {μ : M} {f : Int} {m : Int} {a : Int} : callQ (tb.fn 50) F [.int f, .int m, .int a] μ Q ↔ (okF f ∧ okM0 m ∧ 0 ≤ a) ∧ Q (t2 (RvNum.sqrt (fm f) m.toNat (num (fm f) a.toNat))) μ := Iff.rfl
theorem gd50 {kc : Sts} {kS nA : Nat} (hn : 3 = nA) (h : ∀ F (μ : M) (f : Int) (m : Int) (a : Int), (okF f ∧ okM0 m ∧ 0 ≤ a) → exs tb F kc (senv kS [.int f, .int m, .int a]) μ (fun _ _ => False) (fun v0 m' => v0 = t2 (RvNum.sqrt (fm f) m.toNat (num (fm f) a.toNat)) ∧ m' = μ)) : Good tb (tb.fn 50) nA kS kc := by
  refine pD_good fun F vs m p => ?_
  split at p
  · exact ⟨hn, h F m _ _ _ p⟩
  · exact p.elim
theorem c51 {F : FQ} {Q : PQ} {μ : M} {f : Int} {m : Int} {a : Int} {b : Int} {c : Int} : callQ (tb.fn 51) F [.int f, .int m, .int a, .int b, .int c] μ Q ↔ (okF f ∧ okM0 m ∧ 0 ≤ a ∧ 0 ≤ b ∧ 0 ≤ c) ∧ Q (t2 (RvNum.fma (fm f) m.toNat (num (fm f) a.toNat) (num (fm f) b.toNat) (num (fm f) c.toNat))) μ := Iff.rfl
theorem gd51 {kc : Sts} {kS nA : Nat} (hn : 5 = nA) (h : ∀ F (μ : M) (f : Int) (m : Int) (a : Int) (b : Int) (c : Int), (okF f ∧ okM0 m ∧ 0 ≤ a ∧ 0 ≤ b ∧ 0 ≤ c) → exs tb F kc (senv kS [.int f, .int m, .int a, .int b, .int c]) μ (fun _ _ => False) (fun v0 m' => v0 = t2 (RvNum.fma (fm f) m.toNat (num (fm f) a.toNat) (num (fm f) b.toNat) (num (fm f) c.toNat)) ∧ m' = μ)) : Good tb (tb.fn 51) nA kS kc := by
  refine pD_good fun F vs m p => ?_
  split at p
  · exact ⟨hn, h F m _ _ _ _ _ p⟩
  · exact p.elim
theorem c52 {F : FQ} {Q : PQ} {μ : M} {f : Int} {o : Int} {m : Int} {a : Int} {b : Int} {c : Int} : callQ (tb.fn 52) F [.int f, .int o, .int m, .int a, .int b, .int c] μ Q ↔ (okF f ∧ (5 ≤ o ∧ o ≤ 8) ∧ okM0 m ∧ 0 ≤ a ∧ 0 ≤ b ∧ 0 ≤ c) ∧ Q (t2 (RvNum.op f.toNat o.toNat m.toNat a.toNat b.toNat c.toNat)) μ := Iff.rfl
theorem gd52 {kc : Sts} {kS nA : Nat} (hn : 6 = nA) (h : ∀ F (μ : M) (f : Int) (o : Int) (m : Int) (a : Int) (b : Int) (c : Int), (okF f ∧ (5 ≤ o ∧ o ≤ 8) ∧ okM0 m ∧ 0 ≤ a ∧ 0 ≤ b ∧ 0 ≤ c) → exs tb F kc (senv kS [.int f, .int o, .int m, .int a, .int b, .int c]) μ (fun _ _ => False) (fun v0 m' => v0 = t2 (RvNum.op f.toNat o.toNat m.toNat a.toNat b.toNat c.toNat) ∧ m' = μ)) : Good tb (tb.fn 52) nA kS kc := by
  refine pD_good fun F vs m p => ?_
  split at p
  · exact ⟨hn, h F m _ _ _ _ _ _ p⟩
  · exact p.elim
theorem c53 {F : FQ} {Q : PQ} {μ : M} {v : Int} : callQ (tb.fn 53) F [.int v] μ Q ↔ (True) ∧ Q (.int (v % 18446744073709551616)) μ := Iff.rfl
theorem gd53 {kc : Sts} {kS nA : Nat} (hn : 1 = nA) (h : ∀ F (μ : M) (v : Int), (True) → exs tb F kc (senv kS [.int v]) μ (fun _ _ => False) (fun v0 m' => v0 = .int (v % 18446744073709551616) ∧ m' = μ)) : Good tb (tb.fn 53) nA kS kc := by
  refine pD_good fun F vs m p => ?_
  split at p
  · exact ⟨hn, h F m _ p⟩
  · exact p.elim
theorem c54 {F : FQ} {Q : PQ} {μ : M} {v : Int} {b : Int} : callQ (tb.fn 54) F [.int v, .int b] μ Q ↔ (0 ≤ v ∧ (1 ≤ b ∧ b ≤ 64)) ∧ Q (.int (lowBits b.toNat true v.toNat)) μ := Iff.rfl
theorem gd54 {kc : Sts} {kS nA : Nat} (hn : 2 = nA) (h : ∀ F (μ : M) (v : Int) (b : Int), (0 ≤ v ∧ (1 ≤ b ∧ b ≤ 64)) → exs tb F kc (senv kS [.int v, .int b]) μ (fun _ _ => False) (fun v0 m' => v0 = .int (lowBits b.toNat true v.toNat) ∧ m' = μ)) : Good tb (tb.fn 54) nA kS kc := by
  refine pD_good fun F vs m p => ?_
  split at p
  · exact ⟨hn, h F m _ _ p⟩
  · exact p.elim
theorem c55 {F : FQ} {Q : PQ} {μ : M} {f : Int} {t : Int} {m : Int} {a : Int} : callQ (tb.fn 55) F [.int f, .int t, .int m, .int a] μ Q ↔ (okF f ∧ okF t ∧ okM0 m ∧ 0 ≤ a) ∧ Q (t2 (convertBits f.toNat t.toNat m.toNat a.toNat)) μ := Iff.rfl
theorem gd55 {kc : Sts} {kS nA : Nat} (hn : 4 = nA) (h : ∀ F (μ : M) (f : Int) (t : Int) (m : Int) (a : Int), (okF f ∧ okF t ∧ okM0 m ∧ 0 ≤ a) → exs tb F kc (senv kS [.int f, .int t, .int m, .int a]) μ (fun _ _ => False) (fun v0 m' => v0 = t2 (convertBits f.toNat t.toNat m.toNat a.toNat) ∧ m' = μ)) : Good tb (tb.fn 55) nA kS kc := by
  refine pD_good fun F vs m p => ?_
  split at p
  · exact ⟨hn, h F m _ _ _ _ p⟩
  · exact p.elim
theorem c56 {F : FQ} {Q : PQ} {μ : M} {f : Int} {m : Int} {a : Int} : callQ (tb.fn 56) F [.int f, .int m, .int a] μ Q ↔ (okF f ∧ okM0 m ∧ 0 ≤ a) ∧ Q (t2 (toIntegral (fm f) m.toNat true (num (fm f) a.toNat))) μ := Iff.rfl
theorem gd56 {kc : Sts} {kS nA : Nat} (hn : 3 = nA) (h : ∀ F (μ : M) (f : Int) (m : Int) (a : Int), (okF f ∧ okM0 m ∧ 0 ≤ a) → exs tb F kc (senv kS [.int f, .int m, .int a]) μ (fun _ _ => False) (fun v0 m' => v0 = t2 (toIntegral (fm f) m.toNat true (num (fm f) a.toNat)) ∧ m' = μ)) : Good tb (tb.fn 56) nA kS kc := by
  refine pD_good fun F vs m p => ?_
  split at p
  · exact ⟨hn, h F m _ _ _ p⟩
  · exact p.elim
theorem c57 {F : FQ} {Q : PQ} {μ : M} {f : Int} {m : Int} {a : Int} : callQ (tb.fn 57) F [.int f, .int m, .int a] μ Q ↔ (okF f ∧ okM0 m ∧ 0 ≤ a) ∧ Q (t2 (toIntegral (fm f) m.toNat false (num (fm f) a.toNat))) μ := Iff.rfl
theorem gd57 {kc : Sts} {kS nA : Nat} (hn : 3 = nA) (h : ∀ F (μ : M) (f : Int) (m : Int) (a : Int), (okF f ∧ okM0 m ∧ 0 ≤ a) → exs tb F kc (senv kS [.int f, .int m, .int a]) μ (fun _ _ => False) (fun v0 m' => v0 = t2 (toIntegral (fm f) m.toNat false (num (fm f) a.toNat)) ∧ m' = μ)) : Good tb (tb.fn 57) nA kS kc := by
  refine pD_good fun F vs m p => ?_
  split at p
  · exact ⟨hn, h F m _ _ _ p⟩
  · exact p.elim
theorem c58 {F : FQ} {Q : PQ} {μ : M} {t : Int} : callQ (tb.fn 58) F [.int t] μ Q ↔ (0 ≤ t ∧ t ≤ 7) ∧ Q (.int (widthOf t.toNat : Nat)) μ := Iff.rfl
theorem gd58 {kc : Sts} {kS nA : Nat} (hn : 1 = nA) (h : ∀ F (μ : M) (t : Int), (0 ≤ t ∧ t ≤ 7) → exs tb F kc (senv kS [.int t]) μ (fun _ _ => False) (fun v0 m' => v0 = .int (widthOf t.toNat : Nat) ∧ m' = μ)) : Good tb (tb.fn 58) nA kS kc := by
  refine pD_good fun F vs m p => ?_
  split at p
  · exact ⟨hn, h F m _ p⟩
  · exact p.elim
theorem c59 {F : FQ} {Q : PQ} {μ : M} {t : Int} : callQ (tb.fn 59) F [.int t] μ Q ↔ (0 ≤ t ∧ t ≤ 7) ∧ Q (.bl (signedOf t.toNat)) μ := Iff.rfl
theorem gd59 {kc : Sts} {kS nA : Nat} (hn : 1 = nA) (h : ∀ F (μ : M) (t : Int), (0 ≤ t ∧ t ≤ 7) → exs tb F kc (senv kS [.int t]) μ (fun _ _ => False) (fun v0 m' => v0 = .bl (signedOf t.toNat) ∧ m' = μ)) : Good tb (tb.fn 59) nA kS kc := by
  refine pD_good fun F vs m p => ?_
  split at p
  · exact ⟨hn, h F m _ p⟩
  · exact p.elim
theorem c60 {F : FQ} {Q : PQ} {μ : M} {t : Int} : callQ (tb.fn 60) F [.int t] μ Q ↔ (0 ≤ t ∧ t ≤ 7) ∧ Q (.int (lowest (widthOf t.toNat) (signedOf t.toNat))) μ := Iff.rfl
theorem gd60 {kc : Sts} {kS nA : Nat} (hn : 1 = nA) (h : ∀ F (μ : M) (t : Int), (0 ≤ t ∧ t ≤ 7) → exs tb F kc (senv kS [.int t]) μ (fun _ _ => False) (fun v0 m' => v0 = .int (lowest (widthOf t.toNat) (signedOf t.toNat)) ∧ m' = μ)) : Good tb (tb.fn 60) nA kS kc := by
  refine pD_good fun F vs m p => ?_
  split at p
  · exact ⟨hn, h F m _ p⟩
  · exact p.elim
theorem c61 {F : FQ} {Q : PQ} {μ : M} {t : Int} : callQ (tb.fn 61) F [.int t] μ Q ↔ (0 ≤ t ∧ t ≤ 7) ∧ Q (.int (highest (widthOf t.toNat) (signedOf t.toNat))) μ := Iff.rfl
theorem gd61 {kc : Sts} {kS nA : Nat} (hn : 1 = nA) (h : ∀ F (μ : M) (t : Int), (0 ≤ t ∧ t ≤ 7) → exs tb F kc (senv kS [.int t]) μ (fun _ _ => False) (fun v0 m' => v0 = .int (highest (widthOf t.toNat) (signedOf t.toNat)) ∧ m' = μ)) : Good tb (tb.fn 61) nA kS kc := by
  refine pD_good fun F vs m p => ?_
  split at p
  · exact ⟨hn, h F m _ p⟩
  · exact p.elim
theorem c62 {F : FQ} {Q : PQ} {μ : M} {t : Int} {b : Bool} : callQ (tb.fn 62) F [.int t, .bl b] μ Q ↔ (0 ≤ t ∧ t ≤ 7) ∧ Q (t2 (bits64 (if b = true then lowest (widthOf t.toNat) (signedOf t.toNat) else highest (widthOf t.toNat) (signedOf t.toNat)), 16)) μ := Iff.rfl
theorem gd62 {kc : Sts} {kS nA : Nat} (hn : 2 = nA) (h : ∀ F (μ : M) (t : Int) (b : Bool), (0 ≤ t ∧ t ≤ 7) → exs tb F kc (senv kS [.int t, .bl b]) μ (fun _ _ => False) (fun v0 m' => v0 = t2 (bits64 (if b = true then lowest (widthOf t.toNat) (signedOf t.toNat) else highest (widthOf t.toNat) (signedOf t.toNat)), 16) ∧ m' = μ)) : Good tb (tb.fn 62) nA kS kc := by
  refine pD_good fun F vs m p => ?_
  split at p
  · exact ⟨hn, h F m _ _ p⟩
  · exact p.elim
theorem c63 {F : FQ} {Q : PQ} {μ : M} {f : Int} {t : Int} {m : Int} {a : Int} : callQ (tb.fn 63) F [.int f, .int t, .int m, .int a] μ Q ↔ (okF f ∧ (0 ≤ t ∧ t ≤ 7) ∧ okM0 m ∧ 0 ≤ a) ∧ Q (t2 (toWhole f.toNat t.toNat m.toNat a.toNat)) μ := Iff.rfl
theorem gd63 {kc : Sts} {kS nA : Nat} (hn : 4 = nA) (h : ∀ F (μ : M) (f : Int) (t : Int) (m : Int) (a : Int), (okF f ∧ (0 ≤ t ∧ t ≤ 7) ∧ okM0 m ∧ 0 ≤ a) → exs tb F kc (senv kS [.int f, .int t, .int m, .int a]) μ (fun _ _ => False) (fun v0 m' => v0 = t2 (toWhole f.toNat t.toNat m.toNat a.toNat) ∧ m' = μ)) : Good tb (tb.fn 63) nA kS kc := by
  refine pD_good fun F vs m p => ?_
  split at p
  · exact ⟨hn, h F m _ _ _ _ p⟩
  · exact p.elim
theorem c64 {F : FQ} {Q : PQ} {μ : M} {t : Int} {v : Int} : callQ (tb.fn 64) F [.int t, .int v] μ Q ↔ ((0 ≤ t ∧ t ≤ 7) ∧ 0 ≤ v) ∧ Q (.int (lowBits (widthOf t.toNat) (signedOf t.toNat) v.toNat)) μ := Iff.rfl
theorem gd64 {kc : Sts} {kS nA : Nat} (hn : 2 = nA) (h : ∀ F (μ : M) (t : Int) (v : Int), ((0 ≤ t ∧ t ≤ 7) ∧ 0 ≤ v) → exs tb F kc (senv kS [.int t, .int v]) μ (fun _ _ => False) (fun v0 m' => v0 = .int (lowBits (widthOf t.toNat) (signedOf t.toNat) v.toNat) ∧ m' = μ)) : Good tb (tb.fn 64) nA kS kc := by
  refine pD_good fun F vs m p => ?_
  split at p
  · exact ⟨hn, h F m _ _ p⟩
  · exact p.elim
theorem c65 {F : FQ} {Q : PQ} {μ : M} {f : Int} {t : Int} {m : Int} {v : Int} : callQ (tb.fn 65) F [.int f, .int t, .int m, .int v] μ Q ↔ (okF f ∧ (0 ≤ t ∧ t ≤ 7) ∧ okM0 m ∧ 0 ≤ v) ∧ Q (t2 (fromWhole f.toNat t.toNat m.toNat v.toNat)) μ := Iff.rfl
theorem gd65 {kc : Sts} {kS nA : Nat} (hn : 4 = nA) (h : ∀ F (μ : M) (f : Int) (t : Int) (m : Int) (v : Int), (okF f ∧ (0 ≤ t ∧ t ≤ 7) ∧ okM0 m ∧ 0 ≤ v) → exs tb F kc (senv kS [.int f, .int t, .int m, .int v]) μ (fun _ _ => False) (fun v0 m' => v0 = t2 (fromWhole f.toNat t.toNat m.toNat v.toNat) ∧ m' = μ)) : Good tb (tb.fn 65) nA kS kc := by
  refine pD_good fun F vs m p => ?_
  split at p
  · exact ⟨hn, h F m _ _ _ _ p⟩
  · exact p.elim
theorem c67 {F : FQ} {Q : PQ} {s : Mach} {g : Nat} {r : Int} {v : Int} : callQ (tb.fn 67) F [.mach, .int r, .int v] (enc s g) Q ↔ (Inv s ∧ (0 ≤ r ∧ r < 32)) ∧ outQ ((.ok .non, enc (s.setX r.toNat (v % 18446744073709551616).toNat) g)) F Q := mD_call (pre := P67) (f := V67)
theorem gd67 {kc : Sts} {kS nA : Nat} (hn : 3 = nA) (h : ∀ (s : Mach) (g : Nat) (r : Int) (v : Int), Inv s → (0 ≤ r ∧ r < 32) → exs tb (fun i j' m' => (((.ok .non, enc (s.setX r.toNat (v % 18446744073709551616).toNat) g)) : Out × M) = (.flt i j', m')) kc (senv kS [.mach, .int r, .int v]) (enc s g) (fun _ m' => (((.ok .non, enc (s.setX r.toNat (v % 18446744073709551616).toNat) g)) : Out × M) = (.ok .non, m')) (fun v0 m' => (((.ok .non, enc (s.setX r.toNat (v % 18446744073709551616).toNat) g)) : Out × M) = (.ok v0, m'))) : Good tb (tb.fn 67) nA kS kc := by
  refine mD_good (pre := P67) (f := V67) fun vs s g i p => ?_
  unfold P67 at p
  split at p
  · exact ⟨hn, h s g _ _ i p⟩
  · exact p.elim
theorem c68 {F : FQ} {Q : PQ} {s : Mach} {g : Nat} {f : Int} {r : Int} : callQ (tb.fn 68) F [.mach, .int f, .int r] (enc s g) Q ↔ (Inv s ∧ (okF f ∧ (0 ≤ r ∧ r < 32))) ∧ outQ ((.ok (.int ((s.fr f.toNat r.toNat : Nat) : Int)), enc s g)) F Q := mD_call (pre := P68) (f := V68)
theorem gd68 {kc : Sts} {kS nA : Nat} (hn : 3 = nA) (h : ∀ (s : Mach) (g : Nat) (f : Int) (r : Int), Inv s → (okF f ∧ (0 ≤ r ∧ r < 32)) → exs tb (fun i j' m' => (((.ok (.int ((s.fr f.toNat r.toNat : Nat) : Int)), enc s g)) : Out × M) = (.flt i j', m')) kc (senv kS [.mach, .int f, .int r]) (enc s g) (fun _ m' => (((.ok (.int ((s.fr f.toNat r.toNat : Nat) : Int)), enc s g)) : Out × M) = (.ok .non, m')) (fun v0 m' => (((.ok (.int ((s.fr f.toNat r.toNat : Nat) : Int)), enc s g)) : Out × M) = (.ok v0, m'))) : Good tb (tb.fn 68) nA kS kc := by
  refine mD_good (pre := P68) (f := V68) fun vs s g i p => ?_
  unfold P68 at p
  split at p
  · exact ⟨hn, h s g _ _ i p⟩
  · exact p.elim
theorem c69 {F : FQ} {Q : PQ} {s : Mach} {g : Nat} {f : Int} {r : Int} {v : Int} : callQ (tb.fn 69) F [.mach, .int f, .int r, .int v] (enc s g) Q ↔ (Inv s ∧ (okF f ∧ (0 ≤ r ∧ r < 32) ∧ (0 ≤ v ∧ v < 2 ^ (fm f).width))) ∧ outQ ((.ok .non, enc (s.setF f.toNat r.toNat v.toNat) g)) F Q := mD_call (pre := P69) (f := V69)
theorem gd69 {kc : Sts} {kS nA : Nat} (hn : 4 = nA) (h : ∀ (s : Mach) (g : Nat) (f : Int) (r : Int) (v : Int), Inv s → (okF f ∧ (0 ≤ r ∧ r < 32) ∧ (0 ≤ v ∧ v < 2 ^ (fm f).width)) → exs tb (fun i j' m' => (((.ok .non, enc (s.setF f.toNat r.toNat v.toNat) g)) : Out × M) = (.flt i j', m')) kc (senv kS [.mach, .int f, .int r, .int v]) (enc s g) (fun _ m' => (((.ok .non, enc (s.setF f.toNat r.toNat v.toNat) g)) : Out × M) = (.ok .non, m')) (fun v0 m' => (((.ok .non, enc (s.setF f.toNat r.toNat v.toNat) g)) : Out × M) = (.ok v0, m'))) : Good tb (tb.fn 69) nA kS kc := by
  refine mD_good (pre := P69) (f := V69) fun vs s g i p => ?_
  unfold P69 at p
  split at p
  · exact ⟨hn, h s g _ _ _ i p⟩
  · exact p.elim
theorem c70 {F : FQ} {Q : PQ} {s : Mach} {g : Nat} {v : Int} : callQ (tb.fn 70) F [.mach, .int v] (enc s g) Q ↔ (Inv s ∧ (0 ≤ v ∧ v < 32)) ∧ outQ ((.ok .non, enc (s.raise v.toNat) g)) F Q := mD_call (pre := P70) (f := V70)
theorem gd70 {kc : Sts} {kS nA : Nat} (hn : 2 = nA) (h : ∀ (s : Mach) (g : Nat) (v : Int), Inv s → (0 ≤ v ∧ v < 32) → exs tb (fun i j' m' => (((.ok .non, enc (s.raise v.toNat) g)) : Out × M) = (.flt i j', m')) kc (senv kS [.mach, .int v]) (enc s g) (fun _ m' => (((.ok .non, enc (s.raise v.toNat) g)) : Out × M) = (.ok .non, m')) (fun v0 m' => (((.ok .non, enc (s.raise v.toNat) g)) : Out × M) = (.ok v0, m'))) : Good tb (tb.fn 70) nA kS kc := by
  refine mD_good (pre := P70) (f := V70) fun vs s g i p => ?_
  unfold P70 at p
  split at p
  · exact ⟨hn, h s g _ i p⟩
  · exact p.elim
theorem c71 {F : FQ} {Q : PQ} {s : Mach} {g : Nat} {a : Int} {n : Int} : callQ (tb.fn 71) F [.mach, .int a, .int n] (enc s g) Q ↔ (Inv s ∧ (0 ≤ a ∧ 0 ≤ n ∧ n ≤ 8 ∧ a + n ≤ 4096)) ∧ outQ ((.ok (.int ((valueOf ((s.mem.drop a.toNat).take n.toNat) : Nat) : Int)), enc s g)) F Q := mD_call (pre := P71) (f := V71)
theorem gd71 {kc : Sts} {kS nA : Nat} (hn : 3 = nA) (h : ∀ (s : Mach) (g : Nat) (a : Int) (n : Int), Inv s → (0 ≤ a ∧ 0 ≤ n ∧ n ≤ 8 ∧ a + n ≤ 4096) → exs tb (fun i j' m' => (((.ok (.int ((valueOf ((s.mem.drop a.toNat).take n.toNat) : Nat) : Int)), enc s g)) : Out × M) = (.flt i j', m')) kc (senv kS [.mach, .int a, .int n]) (enc s g) (fun _ m' => (((.ok (.int ((valueOf ((s.mem.drop a.toNat).take n.toNat) : Nat) : Int)), enc s g)) : Out × M) = (.ok .non, m')) (fun v0 m' => (((.ok (.int ((valueOf ((s.mem.drop a.toNat).take n.toNat) : Nat) : Int)), enc s g)) : Out × M) = (.ok v0, m'))) : Good tb (tb.fn 71) nA kS kc := by
  refine mD_good (pre := P71) (f := V71) fun vs s g i p => ?_
  unfold P71 at p
  split at p
  · exact ⟨hn, h s g _ _ i p⟩
  · exact p.elim
theorem c72 {F : FQ} {Q : PQ} {s : Mach} {g : Nat} {a : Int} {n : Int} {v : Int} : callQ (tb.fn 72) F [.mach, .int a, .int n, .int v] (enc s g) Q ↔ (Inv s ∧ (0 ≤ a ∧ 0 ≤ n ∧ n ≤ 8 ∧ a + n ≤ 4096 ∧ 0 ≤ v)) ∧ outQ ((.ok .non, enc { s with mem := s.mem.take a.toNat ++ (bytesOf n.toNat v.toNat ++ s.mem.drop (a.toNat + n.toNat)) } g)) F Q := mD_call (pre := P72) (f := V72)
theorem gd72 {kc : Sts} {kS nA : Nat} (hn : 4 = nA) (h : ∀ (s : Mach) (g : Nat) (a : Int) (n : Int) (v : Int), Inv s → (0 ≤ a ∧ 0 ≤ n ∧ n ≤ 8 ∧ a + n ≤ 4096 ∧ 0 ≤ v) → exs tb (fun i j' m' => (((.ok .non, enc { s with mem := s.mem.take a.toNat ++ (bytesOf n.toNat v.toNat ++ s.mem.drop (a.toNat + n.toNat)) } g)) : Out × M) = (.flt i j', m')) kc (senv kS [.mach, .int a, .int n, .int v]) (enc s g) (fun _ m' => (((.ok .non, enc { s with mem := s.mem.take a.toNat ++ (bytesOf n.toNat v.toNat ++ s.mem.drop (a.toNat + n.toNat)) } g)) : Out × M) = (.ok .non, m')) (fun v0 m' => (((.ok .non, enc { s with mem := s.mem.take a.toNat ++ (bytesOf n.toNat v.toNat ++ s.mem.drop (a.toNat + n.toNat)) } g)) : Out × M) = (.ok v0, m'))) : Good tb (tb.fn 72) nA kS kc := by
  refine mD_good (pre := P72) (f := V72) fun vs s g i p => ?_
  unfold P72 at p
  split at p
  · exact ⟨hn, h s g _ _ _ i p⟩
  · exact p.elim
theorem c73 {F : FQ} {Q : PQ} {μ : M} {b : Bool} {w : Int} : callQ (tb.fn 73) F [.bl b, .int w] μ Q ↔ (True) ∧ outQ (if b = true then .ok .non else .flt 2 w, μ) F Q := Iff.rfl
theorem gd73 {kc : Sts} {kS nA : Nat} (hn : 2 = nA) (h : ∀ (μ : M) (b : Bool) (w : Int), (True) → exs tb (fun i j' m' => ((if b = true then .ok .non else .flt 2 w : Out), μ) = (.flt i j', m')) kc (senv kS [.bl b, .int w]) μ (fun _ m' => ((if b = true then .ok .non else .flt 2 w : Out), μ) = (.ok .non, m')) (fun v0 m' => ((if b = true then .ok .non else .flt 2 w : Out), μ) = (.ok v0, m'))) : Good tb (tb.fn 73) nA kS kc := by
  refine fD_good fun vs m p => ?_
  split at p
  · exact ⟨hn, h m _ _ p⟩
  · exact p.elim
theorem c74 {F : FQ} {Q : PQ} {μ : M} {w : Int} : callQ (tb.fn 74) F [.int w] μ Q ↔ (0 ≤ w ∧ w < 4294967296) ∧ Q (.int (opcodeOf w.toNat : Nat)) μ := Iff.rfl
theorem gd74 {kc : Sts} {kS nA : Nat} (hn : 1 = nA) (h : ∀ F (μ : M) (w : Int), (0 ≤ w ∧ w < 4294967296) → exs tb F kc (senv kS [.int w]) μ (fun _ _ => False) (fun v0 m' => v0 = .int (opcodeOf w.toNat : Nat) ∧ m' = μ)) : Good tb (tb.fn 74) nA kS kc := by
  refine pD_good fun F vs m p => ?_
  split at p
  · exact ⟨hn, h F m _ p⟩
  · exact p.elim
theorem c75 {F : FQ} {Q : PQ} {μ : M} {w : Int} : callQ (tb.fn 75) F [.int w] μ Q ↔ (0 ≤ w ∧ w < 4294967296) ∧ Q (.int (rdOf w.toNat : Nat)) μ := Iff.rfl
theorem gd75 {kc : Sts} {kS nA : Nat} (hn : 1 = nA) (h : ∀ F (μ : M) (w : Int), (0 ≤ w ∧ w < 4294967296) → exs tb F kc (senv kS [.int w]) μ (fun _ _ => False) (fun v0 m' => v0 = .int (rdOf w.toNat : Nat) ∧ m' = μ)) : Good tb (tb.fn 75) nA kS kc := by
  refine pD_good fun F vs m p => ?_
  split at p
  · exact ⟨hn, h F m _ p⟩
  · exact p.elim
theorem c76 {F : FQ} {Q : PQ} {μ : M} {w : Int} : callQ (tb.fn 76) F [.int w] μ Q ↔ (0 ≤ w ∧ w < 4294967296) ∧ Q (.int (f3Of w.toNat : Nat)) μ := Iff.rfl
theorem gd76 {kc : Sts} {kS nA : Nat} (hn : 1 = nA) (h : ∀ F (μ : M) (w : Int), (0 ≤ w ∧ w < 4294967296) → exs tb F kc (senv kS [.int w]) μ (fun _ _ => False) (fun v0 m' => v0 = .int (f3Of w.toNat : Nat) ∧ m' = μ)) : Good tb (tb.fn 76) nA kS kc := by
  refine pD_good fun F vs m p => ?_
  split at p
  · exact ⟨hn, h F m _ p⟩
  · exact p.elim
theorem c77 {F : FQ} {Q : PQ} {μ : M} {w : Int} : callQ (tb.fn 77) F [.int w] μ Q ↔ (0 ≤ w ∧ w < 4294967296) ∧ Q (.int (rs1Of w.toNat : Nat)) μ := Iff.rfl
theorem gd77 {kc : Sts} {kS nA : Nat} (hn : 1 = nA) (h : ∀ F (μ : M) (w : Int), (0 ≤ w ∧ w < 4294967296) → exs tb F kc (senv kS [.int w]) μ (fun _ _ => False) (fun v0 m' => v0 = .int (rs1Of w.toNat : Nat) ∧ m' = μ)) : Good tb (tb.fn 77) nA kS kc := by
  refine pD_good fun F vs m p => ?_
  split at p
  · exact ⟨hn, h F m _ p⟩
  · exact p.elim
theorem c78 {F : FQ} {Q : PQ} {μ : M} {w : Int} : callQ (tb.fn 78) F [.int w] μ Q ↔ (0 ≤ w ∧ w < 4294967296) ∧ Q (.int (rs2Of w.toNat : Nat)) μ := Iff.rfl
theorem gd78 {kc : Sts} {kS nA : Nat} (hn : 1 = nA) (h : ∀ F (μ : M) (w : Int), (0 ≤ w ∧ w < 4294967296) → exs tb F kc (senv kS [.int w]) μ (fun _ _ => False) (fun v0 m' => v0 = .int (rs2Of w.toNat : Nat) ∧ m' = μ)) : Good tb (tb.fn 78) nA kS kc := by
  refine pD_good fun F vs m p => ?_
  split at p
  · exact ⟨hn, h F m _ p⟩
  · exact p.elim
theorem c79 {F : FQ} {Q : PQ} {μ : M} {w : Int} : callQ (tb.fn 79) F [.int w] μ Q ↔ (0 ≤ w ∧ w < 4294967296) ∧ Q (.int (fmOf w.toNat : Nat)) μ := Iff.rfl
theorem gd79 {kc : Sts} {kS nA : Nat} (hn : 1 = nA) (h : ∀ F (μ : M) (w : Int), (0 ≤ w ∧ w < 4294967296) → exs tb F kc (senv kS [.int w]) μ (fun _ _ => False) (fun v0 m' => v0 = .int (fmOf w.toNat : Nat) ∧ m' = μ)) : Good tb (tb.fn 79) nA kS kc := by
  refine pD_good fun F vs m p => ?_
  split at p
  · exact ⟨hn, h F m _ p⟩
  · exact p.elim
theorem c80 {F : FQ} {Q : PQ} {μ : M} {w : Int} : callQ (tb.fn 80) F [.int w] μ Q ↔ (0 ≤ w ∧ w < 4294967296) ∧ Q (.int (f7Of w.toNat : Nat)) μ := Iff.rfl
theorem gd80 {kc : Sts} {kS nA : Nat} (hn : 1 = nA) (h : ∀ F (μ : M) (w : Int), (0 ≤ w ∧ w < 4294967296) → exs tb F kc (senv kS [.int w]) μ (fun _ _ => False) (fun v0 m' => v0 = .int (f7Of w.toNat : Nat) ∧ m' = μ)) : Good tb (tb.fn 80) nA kS kc := by
  refine pD_good fun F vs m p => ?_
  split at p
  · exact ⟨hn, h F m _ p⟩
  · exact p.elim
theorem c81 {F : FQ} {Q : PQ} {μ : M} {w : Int} : callQ (tb.fn 81) F [.int w] μ Q ↔ (0 ≤ w ∧ w < 4294967296) ∧ Q (.int (f5Of w.toNat : Nat)) μ := Iff.rfl
theorem gd81 {kc : Sts} {kS nA : Nat} (hn : 1 = nA) (h : ∀ F (μ : M) (w : Int), (0 ≤ w ∧ w < 4294967296) → exs tb F kc (senv kS [.int w]) μ (fun _ _ => False) (fun v0 m' => v0 = .int (f5Of w.toNat : Nat) ∧ m' = μ)) : Good tb (tb.fn 81) nA kS kc := by
  refine pD_good fun F vs m p => ?_
  split at p
  · exact ⟨hn, h F m _ p⟩
  · exact p.elim
theorem c82 {F : FQ} {Q : PQ} {μ : M} {w : Int} : callQ (tb.fn 82) F [.int w] μ Q ↔ (0 ≤ w ∧ w < 4294967296) ∧ Q (.int (f5Of w.toNat : Nat)) μ := Iff.rfl
theorem gd82 {kc : Sts} {kS nA : Nat} (hn : 1 = nA) (h : ∀ F (μ : M) (w : Int), (0 ≤ w ∧ w < 4294967296) → exs tb F kc (senv kS [.int w]) μ (fun _ _ => False) (fun v0 m' => v0 = .int (f5Of w.toNat : Nat) ∧ m' = μ)) : Good tb (tb.fn 82) nA kS kc := by
  refine pD_good fun F vs m p => ?_
  split at p
  · exact ⟨hn, h F m _ p⟩
  · exact p.elim
theorem c83 {F : FQ} {Q : PQ} {μ : M} {w : Int} : callQ (tb.fn 83) F [.int w] μ Q ↔ (0 ≤ w ∧ w < 4294967296) ∧ Q (.int (bitsOf w.toNat 20 12 : Nat)) μ := Iff.rfl
theorem gd83 {kc : Sts} {kS nA : Nat} (hn : 1 = nA) (h : ∀ F (μ : M) (w : Int), (0 ≤ w ∧ w < 4294967296) → exs tb F kc (senv kS [.int w]) μ (fun _ _ => False) (fun v0 m' => v0 = .int (bitsOf w.toNat 20 12 : Nat) ∧ m' = μ)) : Good tb (tb.fn 83) nA kS kc := by
  refine pD_good fun F vs m p => ?_
  split at p
  · exact ⟨hn, h F m _ p⟩
  · exact p.elim
theorem c84 {F : FQ} {Q : PQ} {μ : M} {w : Int} : callQ (tb.fn 84) F [.int w] μ Q ↔ (0 ≤ w ∧ w < 4294967296) ∧ Q (.int (lowBits 12 true (bitsOf w.toNat 20 12))) μ := Iff.rfl
theorem gd84 {kc : Sts} {kS nA : Nat} (hn : 1 = nA) (h : ∀ F (μ : M) (w : Int), (0 ≤ w ∧ w < 4294967296) → exs tb F kc (senv kS [.int w]) μ (fun _ _ => False) (fun v0 m' => v0 = .int (lowBits 12 true (bitsOf w.toNat 20 12)) ∧ m' = μ)) : Good tb (tb.fn 84) nA kS kc := by
  refine pD_good fun F vs m p => ?_
  split at p
  · exact ⟨hn, h F m _ p⟩
  · exact p.elim
theorem c85 {F : FQ} {Q : PQ} {μ : M} {w : Int} : callQ (tb.fn 85) F [.int w] μ Q ↔ (0 ≤ w ∧ w < 4294967296) ∧ Q (.int (lowBits 12 true (bitsOf w.toNat 25 7 * 2 ^ 5 + bitsOf w.toNat 7 5))) μ := Iff.rfl
theorem gd85 {kc : Sts} {kS nA : Nat} (hn : 1 = nA) (h : ∀ F (μ : M) (w : Int), (0 ≤ w ∧ w < 4294967296) → exs tb F kc (senv kS [.int w]) μ (fun _ _ => False) (fun v0 m' => v0 = .int (lowBits 12 true (bitsOf w.toNat 25 7 * 2 ^ 5 + bitsOf w.toNat 7 5)) ∧ m' = μ)) : Good tb (tb.fn 85) nA kS kc := by
  refine pD_good fun F vs m p => ?_
  split at p
  · exact ⟨hn, h F m _ p⟩
  · exact p.elim
theorem c86 {F : FQ} {Q : PQ} {μ : M} {w : Int} : callQ (tb.fn 86) F [.int w] μ Q ↔ (0 ≤ w ∧ w < 4294967296) ∧ Q (.int (lowBits 13 true (bitsOf w.toNat 31 1 * 2 ^ 12 + bitsOf w.toNat 7 1 * 2 ^ 11 + bitsOf w.toNat 25 6 * 2 ^ 5 + bitsOf w.toNat 8 4 * 2))) μ := Iff.rfl
theorem gd86 {kc : Sts} {kS nA : Nat} (hn : 1 = nA) (h : ∀ F (μ : M) (w : Int), (0 ≤ w ∧ w < 4294967296) → exs tb F kc (senv kS [.int w]) μ (fun _ _ => False) (fun v0 m' => v0 = .int (lowBits 13 true (bitsOf w.toNat 31 1 * 2 ^ 12 + bitsOf w.toNat 7 1 * 2 ^ 11 + bitsOf w.toNat 25 6 * 2 ^ 5 + bitsOf w.toNat 8 4 * 2)) ∧ m' = μ)) : Good tb (tb.fn 86) nA kS kc := by
  refine pD_good fun F vs m p => ?_
  split at p
  · exact ⟨hn, h F m _ p⟩
  · exact p.elim
theorem c87 {F : FQ} {Q : PQ} {μ : M} {w : Int} : callQ (tb.fn 87) F [.int w] μ Q ↔ (0 ≤ w ∧ w < 4294967296) ∧ Q (.int (lowBits 21 true (bitsOf w.toNat 31 1 * 2 ^ 20 + bitsOf w.toNat 12 8 * 2 ^ 12 + bitsOf w.toNat 20 1 * 2 ^ 11 + bitsOf w.toNat 21 10 * 2))) μ := Iff.rfl
theorem gd87 {kc : Sts} {kS nA : Nat} (hn : 1 = nA) (h : ∀ F (μ : M) (w : Int), (0 ≤ w ∧ w < 4294967296) → exs tb F kc (senv kS [.int w]) μ (fun _ _ => False) (fun v0 m' => v0 = .int (lowBits 21 true (bitsOf w.toNat 31 1 * 2 ^ 20 + bitsOf w.toNat 12 8 * 2 ^ 12 + bitsOf w.toNat 20 1 * 2 ^ 11 + bitsOf w.toNat 21 10 * 2)) ∧ m' = μ)) : Good tb (tb.fn 87) nA kS kc := by
  refine pD_good fun F vs m p => ?_
  split at p
  · exact ⟨hn, h F m _ p⟩
  · exact p.elim
theorem c88 {F : FQ} {Q : PQ} {s : Mach} {g : Nat} {q : Int} : callQ (tb.fn 88) F [.mach, .int q] (enc s g) Q ↔ (Inv s ∧ (1 ≤ q ∧ q ≤ 3)) ∧ outQ ((.ok (.int (s.csr q.toNat : Nat)), enc s g)) F Q := mD_call (pre := P88) (f := V88)
theorem gd88 {kc : Sts} {kS nA : Nat} (hn : 2 = nA) (h : ∀ (s : Mach) (g : Nat) (q : Int), Inv s → (1 ≤ q ∧ q ≤ 3) → exs tb (fun i j' m' => (((.ok (.int (s.csr q.toNat : Nat)), enc s g)) : Out × M) = (.flt i j', m')) kc (senv kS [.mach, .int q]) (enc s g) (fun _ m' => (((.ok (.int (s.csr q.toNat : Nat)), enc s g)) : Out × M) = (.ok .non, m')) (fun v0 m' => (((.ok (.int (s.csr q.toNat : Nat)), enc s g)) : Out × M) = (.ok v0, m'))) : Good tb (tb.fn 88) nA kS kc := by
  refine mD_good (pre := P88) (f := V88) fun vs s g i p => ?_
  unfold P88 at p
  split at p
  · exact ⟨hn, h s g _ i p⟩
  · exact p.elim
theorem c89 {F : FQ} {Q : PQ} {s : Mach} {g : Nat} {q : Int} {v : Int} : callQ (tb.fn 89) F [.mach, .int q, .int v] (enc s g) Q ↔ (Inv s ∧ ((1 ≤ q ∧ q ≤ 3) ∧ 0 ≤ v)) ∧ outQ ((.ok .non, enc (s.setCsr q.toNat v.toNat) g)) F Q := mD_call (pre := P89) (f := V89)
theorem gd89 {kc : Sts} {kS nA : Nat} (hn : 3 = nA) (h : ∀ (s : Mach) (g : Nat) (q : Int) (v : Int), Inv s → ((1 ≤ q ∧ q ≤ 3) ∧ 0 ≤ v) → exs tb (fun i j' m' => (((.ok .non, enc (s.setCsr q.toNat v.toNat) g)) : Out × M) = (.flt i j', m')) kc (senv kS [.mach, .int q, .int v]) (enc s g) (fun _ m' => (((.ok .non, enc (s.setCsr q.toNat v.toNat) g)) : Out × M) = (.ok .non, m')) (fun v0 m' => (((.ok .non, enc (s.setCsr q.toNat v.toNat) g)) : Out × M) = (.ok v0, m'))) : Good tb (tb.fn 89) nA kS kc := by
  refine mD_good (pre := P89) (f := V89) fun vs s g i p => ?_
  unfold P89 at p
  split at p
  · exact ⟨hn, h s g _ _ i p⟩
  · exact p.elim
theorem c90 {F : FQ} {Q : PQ} {μ : M} {f : Int} {o : Int} {n : Int} : callQ (tb.fn 90) F [.int f, .int o, .int n] μ Q ↔ ((1 ≤ f ∧ f ≤ 3) ∧ (0 ≤ o ∧ o < 18446744073709551616) ∧ (0 ≤ n ∧ n < 18446744073709551616)) ∧ Q (.int ((if f = 1 then n.toNat else if f = 2 then Nat.lor o.toNat n.toNat else Nat.land o.toNat (Nat.xor (2 ^ 64 - 1) n.toNat) : Nat) : Int)) μ := Iff.rfl
theorem gd90 {kc : Sts} {kS nA : Nat} (hn : 3 = nA) (h : ∀ F (μ : M) (f : Int) (o : Int) (n : Int), ((1 ≤ f ∧ f ≤ 3) ∧ (0 ≤ o ∧ o < 18446744073709551616) ∧ (0 ≤ n ∧ n < 18446744073709551616)) → exs tb F kc (senv kS [.int f, .int o, .int n]) μ (fun _ _ => False) (fun v0 m' => v0 = .int ((if f = 1 then n.toNat else if f = 2 then Nat.lor o.toNat n.toNat else Nat.land o.toNat (Nat.xor (2 ^ 64 - 1) n.toNat) : Nat) : Int) ∧ m' = μ)) : Good tb (tb.fn 90) nA kS kc := by
  refine pD_good fun F vs m p => ?_
  split at p
  · exact ⟨hn, h F m _ _ _ p⟩
  · exact p.elim
theorem c91 {F : FQ} {Q : PQ} {s : Mach} {g : Nat} {w : Int} : callQ (tb.fn 91) F [.mach, .int w] (enc s g) Q ↔ (Inv s ∧ (0 ≤ w ∧ w < 4294967296 ∧ w ≠ 115)) ∧ outQ (off s g (execCsr s w.toNat)) F Q := mD_call (pre := P91) (f := V91)
theorem gd91 {kc : Sts} {kS nA : Nat} (hn : 2 = nA) (h : ∀ (s : Mach) (g : Nat) (w : Int), Inv s → (0 ≤ w ∧ w < 4294967296 ∧ w ≠ 115) → exs tb (fun i j' m' => ((off s g (execCsr s w.toNat)) : Out × M) = (.flt i j', m')) kc (senv kS [.mach, .int w]) (enc s g) (fun _ m' => ((off s g (execCsr s w.toNat)) : Out × M) = (.ok .non, m')) (fun v0 m' => ((off s g (execCsr s w.toNat)) : Out × M) = (.ok v0, m'))) : Good tb (tb.fn 91) nA kS kc := by
  refine mD_good (pre := P91) (f := V91) fun vs s g i p => ?_
  unfold P91 at p
  split at p
  · exact ⟨hn, h s g _ i p⟩
  · exact p.elim
theorem c92 {F : FQ} {Q : PQ} {μ : M} {f : Int} {o : Int} {m : Int} {l : List Int} : callQ (tb.fn 92) F [.int f, .int o, .int m, .lst l] μ Q ↔ (okF f ∧ (0 ≤ o ∧ o ≤ 8) ∧ okM0 m ∧ okL l) ∧ Q (t2 (RvNum.op f.toNat o.toNat m.toNat (l.getD 0 0).toNat (l.getD 1 0).toNat (l.getD 2 0).toNat)) μ := Iff.rfl
theorem gd92 {kc : Sts} {kS nA : Nat} (hn : 4 = nA) (h : ∀ F (μ : M) (f : Int) (o : Int) (m : Int) (l : List Int), (okF f ∧ (0 ≤ o ∧ o ≤ 8) ∧ okM0 m ∧ okL l) → exs tb F kc (senv kS [.int f, .int o, .int m, .lst l]) μ (fun _ _ => False) (fun v0 m' => v0 = t2 (RvNum.op f.toNat o.toNat m.toNat (l.getD 0 0).toNat (l.getD 1 0).toNat (l.getD 2 0).toNat) ∧ m' = μ)) : Good tb (tb.fn 92) nA kS kc := by
  refine pD_good fun F vs m p => ?_
  split at p
  · exact ⟨hn, h F m _ _ _ _ p⟩
  · exact p.elim
theorem c93 {F : FQ} {Q : PQ} {μ : M} {f : Int} {o : Int} {m : Int} {l : List Int} : callQ (tb.fn 93) F [.int f, .int o, .int m, .lst l] μ Q ↔ (okF f ∧ (0 ≤ o ∧ o ≤ 15) ∧ okM0 m ∧ okL l) ∧ Q (t2 (RvNum.op f.toNat o.toNat m.toNat (l.getD 0 0).toNat (l.getD 1 0).toNat (l.getD 2 0).toNat)) μ := Iff.rfl
theorem gd93 {kc : Sts} {kS nA : Nat} (hn : 4 = nA) (h : ∀ F (μ : M) (f : Int) (o : Int) (m : Int) (l : List Int), (okF f ∧ (0 ≤ o ∧ o ≤ 15) ∧ okM0 m ∧ okL l) → exs tb F kc (senv kS [.int f, .int o, .int m, .lst l]) μ (fun _ _ => False) (fun v0 m' => v0 = t2 (RvNum.op f.toNat o.toNat m.toNat (l.getD 0 0).toNat (l.getD 1 0).toNat (l.getD 2 0).toNat) ∧ m' = μ)) : Good tb (tb.fn 93) nA kS kc := by
  refine pD_good fun F vs m p => ?_
  split at p
  · exact ⟨hn, h F m _ _ _ _ p⟩
  · exact p.elim
theorem c94 {F : FQ} {Q : PQ} {μ : M} {w : Int} : callQ (tb.fn 94) F [.int w] μ Q ↔ (0 ≤ w ∧ w < 4294967296) ∧ outQ (if fmOf w.toNat = 3 then .flt 2 w else .ok (.int (fmOf w.toNat : Nat)), μ) F Q := Iff.rfl
theorem gd94 {kc : Sts} {kS nA : Nat} (hn : 1 = nA) (h : ∀ (μ : M) (w : Int), (0 ≤ w ∧ w < 4294967296) → exs tb (fun i j' m' => ((if fmOf w.toNat = 3 then .flt 2 w else .ok (.int (fmOf w.toNat : Nat)) : Out), μ) = (.flt i j', m')) kc (senv kS [.int w]) μ (fun _ m' => ((if fmOf w.toNat = 3 then .flt 2 w else .ok (.int (fmOf w.toNat : Nat)) : Out), μ) = (.ok .non, m')) (fun v0 m' => ((if fmOf w.toNat = 3 then .flt 2 w else .ok (.int (fmOf w.toNat : Nat)) : Out), μ) = (.ok v0, m'))) : Good tb (tb.fn 94) nA kS kc := by
  refine fD_good fun vs m p => ?_
  split at p
  · exact ⟨hn, h m _ p⟩
  · exact p.elim
theorem c95 {F : FQ} {Q : PQ} {s : Mach} {g : Nat} {w : Int} : callQ (tb.fn 95) F [.mach, .int w] (enc s g) Q ↔ (Inv s ∧ (0 ≤ w ∧ w < 4294967296)) ∧ outQ (match s.mode (f3Of w.toNat) with
    | none => (.flt 2 w, enc s g)
    | some rm => (.ok (.int (rm : Nat)), enc s g)) F Q := mD_call (pre := P95) (f := V95)
theorem gd95 {kc : Sts} {kS nA : Nat} (hn : 2 = nA) (h : ∀ (s : Mach) (g : Nat) (w : Int), Inv s → (0 ≤ w ∧ w < 4294967296) → exs tb (fun i j' m' => ((match s.mode (f3Of w.toNat) with
    | none => (.flt 2 w, enc s g)
    | some rm => (.ok (.int (rm : Nat)), enc s g)) : Out × M) = (.flt i j', m')) kc (senv kS [.mach, .int w]) (enc s g) (fun _ m' => ((match s.mode (f3Of w.toNat) with
    | none => (.flt 2 w, enc s g)
    | some rm => (.ok (.int (rm : Nat)), enc s g)) : Out × M) = (.ok .non, m')) (fun v0 m' => ((match s.mode (f3Of w.toNat) with
    | none => (.flt 2 w, enc s g)
    | some rm => (.ok (.int (rm : Nat)), enc s g)) : Out × M) = (.ok v0, m'))) : Good tb (tb.fn 95) nA kS kc := by
  refine mD_good (pre := P95) (f := V95) fun vs s g i p => ?_
  unfold P95 at p
  split at p
  · exact ⟨hn, h s g _ i p⟩
  · exact p.elim
theorem c96 {F : FQ} {Q : PQ} {s : Mach} {g : Nat} {w : Int} {l : List Int} : callQ (tb.fn 96) F [.mach, .int w, .tup l] (enc s g) Q ↔ (Inv s ∧ (0 ≤ w ∧ w < 4294967296 ∧ fmOf w.toNat ≠ 3 ∧ l.length = 2 ∧ (0 ≤ l.getD 0 0 ∧ l.getD 0 0 < 2 ^ (fmtOf (fmOf w.toNat)).width) ∧ (0 ≤ l.getD 1 0 ∧ l.getD 1 0 < 32))) ∧ outQ ((.ok .non, enc ((s.raise (l.getD 1 0).toNat).setF (fmOf w.toNat) (rdOf w.toNat) (l.getD 0 0).toNat) g)) F Q := mD_call (pre := P96) (f := V96)
theorem gd96 {kc : Sts} {kS nA : Nat} (hn : 3 = nA) (h : ∀ (s : Mach) (g : Nat) (w : Int) (l : List Int), Inv s → (0 ≤ w ∧ w < 4294967296 ∧ fmOf w.toNat ≠ 3 ∧ l.length = 2 ∧ (0 ≤ l.getD 0 0 ∧ l.getD 0 0 < 2 ^ (fmtOf (fmOf w.toNat)).width) ∧ (0 ≤ l.getD 1 0 ∧ l.getD 1 0 < 32)) → exs tb (fun i j' m' => (((.ok .non, enc ((s.raise (l.getD 1 0).toNat).setF (fmOf w.toNat) (rdOf w.toNat) (l.getD 0 0).toNat) g)) : Out × M) = (.flt i j', m')) kc (senv kS [.mach, .int w, .tup l]) (enc s g) (fun _ m' => (((.ok .non, enc ((s.raise (l.getD 1 0).toNat).setF (fmOf w.toNat) (rdOf w.toNat) (l.getD 0 0).toNat) g)) : Out × M) = (.ok .non, m')) (fun v0 m' => (((.ok .non, enc ((s.raise (l.getD 1 0).toNat).setF (fmOf w.toNat) (rdOf w.toNat) (l.getD 0 0).toNat) g)) : Out × M) = (.ok v0, m'))) : Good tb (tb.fn 96) nA kS kc := by
  refine mD_good (pre := P96) (f := V96) fun vs s g i p => ?_
  unfold P96 at p
  split at p
  · exact ⟨hn, h s g _ _ i p⟩
  · exact p.elim
theorem c97 {F : FQ} {Q : PQ} {s : Mach} {g : Nat} {w : Int} {l : List Int} : callQ (tb.fn 97) F [.mach, .int w, .tup l] (enc s g) Q ↔ (Inv s ∧ (0 ≤ w ∧ w < 4294967296 ∧ l.length = 2 ∧ (0 ≤ l.getD 1 0 ∧ l.getD 1 0 < 32))) ∧ outQ ((.ok .non, enc ((s.raise (l.getD 1 0).toNat).setX (rdOf w.toNat) (l.getD 0 0 % 18446744073709551616).toNat) g)) F Q := mD_call (pre := P97) (f := V97)
theorem gd97 {kc : Sts} {kS nA : Nat} (hn : 3 = nA) (h : ∀ (s : Mach) (g : Nat) (w : Int) (l : List Int), Inv s → (0 ≤ w ∧ w < 4294967296 ∧ l.length = 2 ∧ (0 ≤ l.getD 1 0 ∧ l.getD 1 0 < 32)) → exs tb (fun i j' m' => (((.ok .non, enc ((s.raise (l.getD 1 0).toNat).setX (rdOf w.toNat) (l.getD 0 0 % 18446744073709551616).toNat) g)) : Out × M) = (.flt i j', m')) kc (senv kS [.mach, .int w, .tup l]) (enc s g) (fun _ m' => (((.ok .non, enc ((s.raise (l.getD 1 0).toNat).setX (rdOf w.toNat) (l.getD 0 0 % 18446744073709551616).toNat) g)) : Out × M) = (.ok .non, m')) (fun v0 m' => (((.ok .non, enc ((s.raise (l.getD 1 0).toNat).setX (rdOf w.toNat) (l.getD 0 0 % 18446744073709551616).toNat) g)) : Out × M) = (.ok v0, m'))) : Good tb (tb.fn 97) nA kS kc := by
  refine mD_good (pre := P97) (f := V97) fun vs s g i p => ?_
  unfold P97 at p
  split at p
  · exact ⟨hn, h s g _ _ i p⟩
  · exact p.elim
theorem c98 {F : FQ} {Q : PQ} {s : Mach} {g : Nat} {w : Int} : callQ (tb.fn 98) F [.mach, .int w] (enc s g) Q ↔ (Inv s ∧ (0 ≤ w ∧ w < 4294967296 ∧ (w % 128 = 67 ∨ w % 128 = 71 ∨ w % 128 = 75 ∨ w % 128 = 79))) ∧ outQ (off s g (exec s w.toNat)) F Q := mD_call (pre := P98) (f := V98)
theorem gd98 {kc : Sts} {kS nA : Nat} (hn : 2 = nA) (h : ∀ (s : Mach) (g : Nat) (w : Int), Inv s → (0 ≤ w ∧ w < 4294967296 ∧ (w % 128 = 67 ∨ w % 128 = 71 ∨ w % 128 = 75 ∨ w % 128 = 79)) → exs tb (fun i j' m' => ((off s g (exec s w.toNat)) : Out × M) = (.flt i j', m')) kc (senv kS [.mach, .int w]) (enc s g) (fun _ m' => ((off s g (exec s w.toNat)) : Out × M) = (.ok .non, m')) (fun v0 m' => ((off s g (exec s w.toNat)) : Out × M) = (.ok v0, m'))) : Good tb (tb.fn 98) nA kS kc := by
  refine mD_good (pre := P98) (f := V98) fun vs s g i p => ?_
  unfold P98 at p
  split at p
  · exact ⟨hn, h s g _ i p⟩
  · exact p.elim
theorem c99 {F : FQ} {Q : PQ} {s : Mach} {g : Nat} {w : Int} {o : Int} {m : Int} : callQ (tb.fn 99) F [.mach, .int w, .int o, .int m] (enc s g) Q ↔ (Inv s ∧ (0 ≤ w ∧ w < 4294967296 ∧ (0 ≤ o ∧ o ≤ 15) ∧ okM0 m)) ∧ outQ (if fmOf w.toNat = 3 then (.flt 2 w, enc s g) else off s g (intoF s (fmOf w.toNat) (rdOf w.toNat) (RvNum.op (fmOf w.toNat) o.toNat m.toNat (s.fr (fmOf w.toNat) (rs1Of w.toNat)) (s.fr (fmOf w.toNat) (rs2Of w.toNat)) 0))) F Q := mD_call (pre := P99) (f := V99)
theorem gd99 {kc : Sts} {kS nA : Nat} (hn : 4 = nA) (h : ∀ (s : Mach) (g : Nat) (w : Int) (o : Int) (m : Int), Inv s → (0 ≤ w ∧ w < 4294967296 ∧ (0 ≤ o ∧ o ≤ 15) ∧ okM0 m) → exs tb (fun i j' m' => ((if fmOf w.toNat = 3 then (.flt 2 w, enc s g) else off s g (intoF s (fmOf w.toNat) (rdOf w.toNat) (RvNum.op (fmOf w.toNat) o.toNat m.toNat (s.fr (fmOf w.toNat) (rs1Of w.toNat)) (s.fr (fmOf w.toNat) (rs2Of w.toNat)) 0))) : Out × M) = (.flt i j', m')) kc (senv kS [.mach, .int w, .int o, .int m]) (enc s g) (fun _ m' => ((if fmOf w.toNat = 3 then (.flt 2 w, enc s g) else off s g (intoF s (fmOf w.toNat) (rdOf w.toNat) (RvNum.op (fmOf w.toNat) o.toNat m.toNat (s.fr (fmOf w.toNat) (rs1Of w.toNat)) (s.fr (fmOf w.toNat) (rs2Of w.toNat)) 0))) : Out × M) = (.ok .non, m')) (fun v0 m' => ((if fmOf w.toNat = 3 then (.flt 2 w, enc s g) else off s g (intoF s (fmOf w.toNat) (rdOf w.toNat) (RvNum.op (fmOf w.toNat) o.toNat m.toNat (s.fr (fmOf w.toNat) (rs1Of w.toNat)) (s.fr (fmOf w.toNat) (rs2Of w.toNat)) 0))) : Out × M) = (.ok v0, m'))) : Good tb (tb.fn 99) nA kS kc := by
  refine mD_good (pre := P99) (f := V99) fun vs s g i p => ?_
  unfold P99 at p
  split at p
  · exact ⟨hn, h s g _ _ _ i p⟩
  · exact p.elim
theorem c100 {F : FQ} {Q : PQ} {s : Mach} {g : Nat} {w : Int} {l : List Int} : callQ (tb.fn 100) F [.mach, .int w, .tup l] (enc s g) Q ↔ (Inv s ∧ (0 ≤ w ∧ w < 4294967296 ∧ ((f5Of w.toNat = 4 ∧ l = [11, 12, 13]) ∨ (f5Of w.toNat = 5 ∧ l = [9, 10])))) ∧ outQ (off s g (execOp s w.toNat)) F Q := mD_call (pre := P100) (f := V100)
theorem gd100 {kc : Sts} {kS nA : Nat} (hn : 3 = nA) (h : ∀ (s : Mach) (g : Nat) (w : Int) (l : List Int), Inv s → (0 ≤ w ∧ w < 4294967296 ∧ ((f5Of w.toNat = 4 ∧ l = [11, 12, 13]) ∨ (f5Of w.toNat = 5 ∧ l = [9, 10]))) → exs tb (fun i j' m' => ((off s g (execOp s w.toNat)) : Out × M) = (.flt i j', m')) kc (senv kS [.mach, .int w, .tup l]) (enc s g) (fun _ m' => ((off s g (execOp s w.toNat)) : Out × M) = (.ok .non, m')) (fun v0 m' => ((off s g (execOp s w.toNat)) : Out × M) = (.ok v0, m'))) : Good tb (tb.fn 100) nA kS kc := by
  refine mD_good (pre := P100) (f := V100) fun vs s g i p => ?_
  unfold P100 at p
  split at p
  · exact ⟨hn, h s g _ _ i p⟩
  · exact p.elim
theorem c101 {F : FQ} {Q : PQ} {s : Mach} {g : Nat} {w : Int} : callQ (tb.fn 101) F [.mach, .int w] (enc s g) Q ↔ (Inv s ∧ (0 ≤ w ∧ w < 4294967296 ∧ f5Of w.toNat = 11)) ∧ outQ (off s g (execOp s w.toNat)) F Q := mD_call (pre := P101) (f := V101)
theorem gd101 {kc : Sts} {kS nA : Nat} (hn : 2 = nA) (h : ∀ (s : Mach) (g : Nat) (w : Int), Inv s → (0 ≤ w ∧ w < 4294967296 ∧ f5Of w.toNat = 11) → exs tb (fun i j' m' => ((off s g (execOp s w.toNat)) : Out × M) = (.flt i j', m')) kc (senv kS [.mach, .int w]) (enc s g) (fun _ m' => ((off s g (execOp s w.toNat)) : Out × M) = (.ok .non, m')) (fun v0 m' => ((off s g (execOp s w.toNat)) : Out × M) = (.ok v0, m'))) : Good tb (tb.fn 101) nA kS kc := by
  refine mD_good (pre := P101) (f := V101) fun vs s g i p => ?_
  unfold P101 at p
  split at p
  · exact ⟨hn, h s g _ i p⟩
  · exact p.elim
theorem c102 {F : FQ} {Q : PQ} {s : Mach} {g : Nat} {w : Int} : callQ (tb.fn 102) F [.mach, .int w] (enc s g) Q ↔ (Inv s ∧ (0 ≤ w ∧ w < 4294967296 ∧ f5Of w.toNat = 8)) ∧ outQ (off s g (execOp s w.toNat)) F Q := mD_call (pre := P102) (f := V102)
theorem gd102 {kc : Sts} {kS nA : Nat} (hn : 2 = nA) (h : ∀ (s : Mach) (g : Nat) (w : Int), Inv s → (0 ≤ w ∧ w < 4294967296 ∧ f5Of w.toNat = 8) → exs tb (fun i j' m' => ((off s g (execOp s w.toNat)) : Out × M) = (.flt i j', m')) kc (senv kS [.mach, .int w]) (enc s g) (fun _ m' => ((off s g (execOp s w.toNat)) : Out × M) = (.ok .non, m')) (fun v0 m' => ((off s g (execOp s w.toNat)) : Out × M) = (.ok v0, m'))) : Good tb (tb.fn 102) nA kS kc := by
  refine mD_good (pre := P102) (f := V102) fun vs s g i p => ?_
  unfold P102 at p
  split at p
  · exact ⟨hn, h s g _ i p⟩
  · exact p.elim
theorem c103 {F : FQ} {Q : PQ} {s : Mach} {g : Nat} {w : Int} : callQ (tb.fn 103) F [.mach, .int w] (enc s g) Q ↔ (Inv s ∧ (0 ≤ w ∧ w < 4294967296 ∧ f5Of w.toNat = 20)) ∧ outQ (off s g (execOp s w.toNat)) F Q := mD_call (pre := P103) (f := V103)
theorem gd103 {kc : Sts} {kS nA : Nat} (hn : 2 = nA) (h : ∀ (s : Mach) (g : Nat) (w : Int), Inv s → (0 ≤ w ∧ w < 4294967296 ∧ f5Of w.toNat = 20) → exs tb (fun i j' m' => ((off s g (execOp s w.toNat)) : Out × M) = (.flt i j', m')) kc (senv kS [.mach, .int w]) (enc s g) (fun _ m' => ((off s g (execOp s w.toNat)) : Out × M) = (.ok .non, m')) (fun v0 m' => ((off s g (execOp s w.toNat)) : Out × M) = (.ok v0, m'))) : Good tb (tb.fn 103) nA kS kc := by
  refine mD_good (pre := P103) (f := V103) fun vs s g i p => ?_
  unfold P103 at p
  split at p
  · exact ⟨hn, h s g _ i p⟩
  · exact p.elim
theorem c104 {F : FQ} {Q : PQ} {μ : M} {w : Int} : callQ (tb.fn 104) F [.int w] μ Q ↔ (0 ≤ w ∧ w < 4294967296) ∧ outQ (if rs2Of w.toNat ≤ 3 then .ok (.int (4 + (rs2Of w.toNat : Nat))) else .flt 2 w, μ) F Q := Iff.rfl
theorem gd104 {kc : Sts} {kS nA : Nat} (hn : 1 = nA) (h : ∀ (μ : M) (w : Int), (0 ≤ w ∧ w < 4294967296) → exs tb (fun i j' m' => ((if rs2Of w.toNat ≤ 3 then .ok (.int (4 + (rs2Of w.toNat : Nat))) else .flt 2 w : Out), μ) = (.flt i j', m')) kc (senv kS [.int w]) μ (fun _ m' => ((if rs2Of w.toNat ≤ 3 then .ok (.int (4 + (rs2Of w.toNat : Nat))) else .flt 2 w : Out), μ) = (.ok .non, m')) (fun v0 m' => ((if rs2Of w.toNat ≤ 3 then .ok (.int (4 + (rs2Of w.toNat : Nat))) else .flt 2 w : Out), μ) = (.ok v0, m'))) : Good tb (tb.fn 104) nA kS kc := by
  refine fD_good fun vs m p => ?_
  split at p
  · exact ⟨hn, h m _ p⟩
  · exact p.elim
theorem c105 {F : FQ} {Q : PQ} {s : Mach} {g : Nat} {w : Int} : callQ (tb.fn 105) F [.mach, .int w] (enc s g) Q ↔ (Inv s ∧ (0 ≤ w ∧ w < 4294967296 ∧ f5Of w.toNat = 24)) ∧ outQ (off s g (execOp s w.toNat)) F Q := mD_call (pre := P105) (f := V105)
theorem gd105 {kc : Sts} {kS nA : Nat} (hn : 2 = nA) (h : ∀ (s : Mach) (g : Nat) (w : Int), Inv s → (0 ≤ w ∧ w < 4294967296 ∧ f5Of w.toNat = 24) → exs tb (fun i j' m' => ((off s g (execOp s w.toNat)) : Out × M) = (.flt i j', m')) kc (senv kS [.mach, .int w]) (enc s g) (fun _ m' => ((off s g (execOp s w.toNat)) : Out × M) = (.ok .non, m')) (fun v0 m' => ((off s g (execOp s w.toNat)) : Out × M) = (.ok v0, m'))) : Good tb (tb.fn 105) nA kS kc := by
  refine mD_good (pre := P105) (f := V105) fun vs s g i p => ?_
  unfold P105 at p
  split at p
  · exact ⟨hn, h s g _ i p⟩
  · exact p.elim
theorem c106 {F : FQ} {Q : PQ} {s : Mach} {g : Nat} {w : Int} : callQ (tb.fn 106) F [.mach, .int w] (enc s g) Q ↔ (Inv s ∧ (0 ≤ w ∧ w < 4294967296 ∧ f5Of w.toNat = 26)) ∧ outQ (off s g (execOp s w.toNat)) F Q := mD_call (pre := P106) (f := V106)
theorem gd106 {kc : Sts} {kS nA : Nat} (hn : 2 = nA) (h : ∀ (s : Mach) (g : Nat) (w : Int), Inv s → (0 ≤ w ∧ w < 4294967296 ∧ f5Of w.toNat = 26) → exs tb (fun i j' m' => ((off s g (execOp s w.toNat)) : Out × M) = (.flt i j', m')) kc (senv kS [.mach, .int w]) (enc s g) (fun _ m' => ((off s g (execOp s w.toNat)) : Out × M) = (.ok .non, m')) (fun v0 m' => ((off s g (execOp s w.toNat)) : Out × M) = (.ok v0, m'))) : Good tb (tb.fn 106) nA kS kc := by
  refine mD_good (pre := P106) (f := V106) fun vs s g i p => ?_
  unfold P106 at p
  split at p
  · exact ⟨hn, h s g _ i p⟩
  · exact p.elim
theorem c107 {F : FQ} {Q : PQ} {s : Mach} {g : Nat} {w : Int} : callQ (tb.fn 107) F [.mach, .int w] (enc s g) Q ↔ (Inv s ∧ (0 ≤ w ∧ w < 4294967296 ∧ f5Of w.toNat = 28)) ∧ outQ (off s g (execOp s w.toNat)) F Q := mD_call (pre := P107) (f := V107)
theorem gd107 {kc : Sts} {kS nA : Nat} (hn : 2 = nA) (h : ∀ (s : Mach) (g : Nat) (w : Int), Inv s → (0 ≤ w ∧ w < 4294967296 ∧ f5Of w.toNat = 28) → exs tb (fun i j' m' => ((off s g (execOp s w.toNat)) : Out × M) = (.flt i j', m')) kc (senv kS [.mach, .int w]) (enc s g) (fun _ m' => ((off s g (execOp s w.toNat)) : Out × M) = (.ok .non, m')) (fun v0 m' => ((off s g (execOp s w.toNat)) : Out × M) = (.ok v0, m'))) : Good tb (tb.fn 107) nA kS kc := by
  refine mD_good (pre := P107) (f := V107) fun vs s g i p => ?_
  unfold P107 at p
  split at p
  · exact ⟨hn, h s g _ i p⟩
  · exact p.elim
theorem c108 {F : FQ} {Q : PQ} {s : Mach} {g : Nat} {w : Int} : callQ (tb.fn 108) F [.mach, .int w] (enc s g) Q ↔ (Inv s ∧ (0 ≤ w ∧ w < 4294967296 ∧ f5Of w.toNat = 30)) ∧ outQ (off s g (execOp s w.toNat)) F Q := mD_call (pre := P108) (f := V108)
theorem gd108 {kc : Sts} {kS nA : Nat} (hn : 2 = nA) (h : ∀ (s : Mach) (g : Nat) (w : Int), Inv s → (0 ≤ w ∧ w < 4294967296 ∧ f5Of w.toNat = 30) → exs tb (fun i j' m' => ((off s g (execOp s w.toNat)) : Out × M) = (.flt i j', m')) kc (senv kS [.mach, .int w]) (enc s g) (fun _ m' => ((off s g (execOp s w.toNat)) : Out × M) = (.ok .non, m')) (fun v0 m' => ((off s g (execOp s w.toNat)) : Out × M) = (.ok v0, m'))) : Good tb (tb.fn 108) nA kS kc := by
  refine mD_good (pre := P108) (f := V108) fun vs s g i p => ?_
  unfold P108 at p
  split at p
  · exact ⟨hn, h s g _ i p⟩
  · exact p.elim
theorem c109 {F : FQ} {Q : PQ} {s : Mach} {g : Nat} {w : Int} : callQ (tb.fn 109) F [.mach, .int w] (enc s g) Q ↔ (Inv s ∧ (0 ≤ w ∧ w < 4294967296 ∧ f5Of w.toNat ≠ 20 ∧ f5Of w.toNat ≠ 24 ∧ f5Of w.toNat ≠ 28)) ∧ outQ (off s g (execOp s w.toNat)) F Q := mD_call (pre := P109) (f := V109)
theorem gd109 {kc : Sts} {kS nA : Nat} (hn : 2 = nA) (h : ∀ (s : Mach) (g : Nat) (w : Int), Inv s → (0 ≤ w ∧ w < 4294967296 ∧ f5Of w.toNat ≠ 20 ∧ f5Of w.toNat ≠ 24 ∧ f5Of w.toNat ≠ 28) → exs tb (fun i j' m' => ((off s g (execOp s w.toNat)) : Out × M) = (.flt i j', m')) kc (senv kS [.mach, .int w]) (enc s g) (fun _ m' => ((off s g (execOp s w.toNat)) : Out × M) = (.ok .non, m')) (fun v0 m' => ((off s g (execOp s w.toNat)) : Out × M) = (.ok v0, m'))) : Good tb (tb.fn 109) nA kS kc := by
  refine mD_good (pre := P109) (f := V109) fun vs s g i p => ?_
  unfold P109 at p
  split at p
  · exact ⟨hn, h s g _ i p⟩
  · exact p.elim
theorem c110 {F : FQ} {Q : PQ} {s : Mach} {g : Nat} {w : Int} : callQ (tb.fn 110) F [.mach, .int w] (enc s g) Q ↔ (Inv s ∧ (0 ≤ w ∧ w < 4294967296)) ∧ outQ (off s g (execOp s w.toNat)) F Q := mD_call (pre := P110) (f := V110)
theorem gd110 {kc : Sts} {kS nA : Nat} (hn : 2 = nA) (h : ∀ (s : Mach) (g : Nat) (w : Int), Inv s → (0 ≤ w ∧ w < 4294967296) → exs tb (fun i j' m' => ((off s g (execOp s w.toNat)) : Out × M) = (.flt i j', m')) kc (senv kS [.mach, .int w]) (enc s g) (fun _ m' => ((off s g (execOp s w.toNat)) : Out × M) = (.ok .non, m')) (fun v0 m' => ((off s g (execOp s w.toNat)) : Out × M) = (.ok v0, m'))) : Good tb (tb.fn 110) nA kS kc := by
  refine mD_good (pre := P110) (f := V110) fun vs s g i p => ?_
  unfold P110 at p
  split at p
  · exact ⟨hn, h s g _ i p⟩
  · exact p.elim
theorem c111 {F : FQ} {Q : PQ} {μ : M} {w : Int} : callQ (tb.fn 111) F [.int w] μ Q ↔ (0 ≤ w ∧ w < 4294967296) ∧ outQ (match bytesOfF3 (f3Of w.toNat) with
    | none => .flt 2 w
    | some p => .ok (t2 p), μ) F Q := Iff.rfl
theorem gd111 {kc : Sts} {kS nA : Nat} (hn : 1 = nA) (h : ∀ (μ : M) (w : Int), (0 ≤ w ∧ w < 4294967296) → exs tb (fun i j' m' => ((match bytesOfF3 (f3Of w.toNat) with
    | none => .flt 2 w
    | some p => .ok (t2 p) : Out), μ) = (.flt i j', m')) kc (senv kS [.int w]) μ (fun _ m' => ((match bytesOfF3 (f3Of w.toNat) with
    | none => .flt 2 w
    | some p => .ok (t2 p) : Out), μ) = (.ok .non, m')) (fun v0 m' => ((match bytesOfF3 (f3Of w.toNat) with
    | none => .flt 2 w
    | some p => .ok (t2 p) : Out), μ) = (.ok v0, m'))) : Good tb (tb.fn 111) nA kS kc := by
  refine fD_good fun vs m p => ?_
  split at p
  · exact ⟨hn, h m _ p⟩
  · exact p.elim
theorem c112 {F : FQ} {Q : PQ} {s : Mach} {g : Nat} {w : Int} {o : Int} {n : Int} {c : Int} : callQ (tb.fn 112) F [.mach, .int w, .int o, .int n, .int c] (enc s g) Q ↔ (Inv s ∧ (0 ≤ w ∧ w < 4294967296 ∧ (0 ≤ n ∧ n ≤ 8))) ∧ outQ ((if (((s.xr (rs1Of w.toNat) : Nat) : Int) + o) % 18446744073709551616 + n ≤ 4096 then .ok (.int ((((s.xr (rs1Of w.toNat) : Nat) : Int) + o) % 18446744073709551616)) else .flt c ((((s.xr (rs1Of w.toNat) : Nat) : Int) + o) % 18446744073709551616), enc s g)) F Q := mD_call (pre := P112) (f := V112)
theorem gd112 {kc : Sts} {kS nA : Nat} (hn : 5 = nA) (h : ∀ (s : Mach) (g : Nat) (w : Int) (o : Int) (n : Int) (c : Int), Inv s → (0 ≤ w ∧ w < 4294967296 ∧ (0 ≤ n ∧ n ≤ 8)) → exs tb (fun i j' m' => (((if (((s.xr (rs1Of w.toNat) : Nat) : Int) + o) % 18446744073709551616 + n ≤ 4096 then .ok (.int ((((s.xr (rs1Of w.toNat) : Nat) : Int) + o) % 18446744073709551616)) else .flt c ((((s.xr (rs1Of w.toNat) : Nat) : Int) + o) % 18446744073709551616), enc s g)) : Out × M) = (.flt i j', m')) kc (senv kS [.mach, .int w, .int o, .int n, .int c]) (enc s g) (fun _ m' => (((if (((s.xr (rs1Of w.toNat) : Nat) : Int) + o) % 18446744073709551616 + n ≤ 4096 then .ok (.int ((((s.xr (rs1Of w.toNat) : Nat) : Int) + o) % 18446744073709551616)) else .flt c ((((s.xr (rs1Of w.toNat) : Nat) : Int) + o) % 18446744073709551616), enc s g)) : Out × M) = (.ok .non, m')) (fun v0 m' => (((if (((s.xr (rs1Of w.toNat) : Nat) : Int) + o) % 18446744073709551616 + n ≤ 4096 then .ok (.int ((((s.xr (rs1Of w.toNat) : Nat) : Int) + o) % 18446744073709551616)) else .flt c ((((s.xr (rs1Of w.toNat) : Nat) : Int) + o) % 18446744073709551616), enc s g)) : Out × M) = (.ok v0, m'))) : Good tb (tb.fn 112) nA kS kc := by
  refine mD_good (pre := P112) (f := V112) fun vs s g i p => ?_
  unfold P112 at p
  split at p
  · exact ⟨hn, h s g _ _ _ _ i p⟩
  · exact p.elim
theorem c113 {F : FQ} {Q : PQ} {s : Mach} {g : Nat} {w : Int} : callQ (tb.fn 113) F [.mach, .int w] (enc s g) Q ↔ (Inv s ∧ (0 ≤ w ∧ w < 4294967296)) ∧ outQ (off s g (execLoad s w.toNat)) F Q := mD_call (pre := P113) (f := V113)
theorem gd113 {kc : Sts} {kS nA : Nat} (hn : 2 = nA) (h : ∀ (s : Mach) (g : Nat) (w : Int), Inv s → (0 ≤ w ∧ w < 4294967296) → exs tb (fun i j' m' => ((off s g (execLoad s w.toNat)) : Out × M) = (.flt i j', m')) kc (senv kS [.mach, .int w]) (enc s g) (fun _ m' => ((off s g (execLoad s w.toNat)) : Out × M) = (.ok .non, m')) (fun v0 m' => ((off s g (execLoad s w.toNat)) : Out × M) = (.ok v0, m'))) : Good tb (tb.fn 113) nA kS kc := by
  refine mD_good (pre := P113) (f := V113) fun vs s g i p => ?_
  unfold P113 at p
  split at p
  · exact ⟨hn, h s g _ i p⟩
  · exact p.elim
theorem c114 {F : FQ} {Q : PQ} {s : Mach} {g : Nat} {w : Int} : callQ (tb.fn 114) F [.mach, .int w] (enc s g) Q ↔ (Inv s ∧ (0 ≤ w ∧ w < 4294967296)) ∧ outQ (off s g (execStore s w.toNat)) F Q := mD_call (pre := P114) (f := V114)
theorem gd114 {kc : Sts} {kS nA : Nat} (hn : 2 = nA) (h : ∀ (s : Mach) (g : Nat) (w : Int), Inv s → (0 ≤ w ∧ w < 4294967296) → exs tb (fun i j' m' => ((off s g (execStore s w.toNat)) : Out × M) = (.flt i j', m')) kc (senv kS [.mach, .int w]) (enc s g) (fun _ m' => ((off s g (execStore s w.toNat)) : Out × M) = (.ok .non, m')) (fun v0 m' => ((off s g (execStore s w.toNat)) : Out × M) = (.ok v0, m'))) : Good tb (tb.fn 114) nA kS kc := by
  refine mD_good (pre := P114) (f := V114) fun vs s g i p => ?_
  unfold P114 at p
  split at p
  · exact ⟨hn, h s g _ i p⟩
  · exact p.elim
theorem c115 {F : FQ} {Q : PQ} {s : Mach} {g : Nat} {w : Int} : callQ (tb.fn 115) F [.mach, .int w] (enc s g) Q ↔ (Inv s ∧ (0 ≤ w ∧ w < 4294967296 ∧ opcodeOf w.toNat = 55)) ∧ outQ (off s g (exec s w.toNat)) F Q := mD_call (pre := P115) (f := V115)
theorem gd115 {kc : Sts} {kS nA : Nat} (hn : 2 = nA) (h : ∀ (s : Mach) (g : Nat) (w : Int), Inv s → (0 ≤ w ∧ w < 4294967296 ∧ opcodeOf w.toNat = 55) → exs tb (fun i j' m' => ((off s g (exec s w.toNat)) : Out × M) = (.flt i j', m')) kc (senv kS [.mach, .int w]) (enc s g) (fun _ m' => ((off s g (exec s w.toNat)) : Out × M) = (.ok .non, m')) (fun v0 m' => ((off s g (exec s w.toNat)) : Out × M) = (.ok v0, m'))) : Good tb (tb.fn 115) nA kS kc := by
  refine mD_good (pre := P115) (f := V115) fun vs s g i p => ?_
  unfold P115 at p
  split at p
  · exact ⟨hn, h s g _ i p⟩
  · exact p.elim
theorem c116 {F : FQ} {Q : PQ} {s : Mach} {g : Nat} {w : Int} : callQ (tb.fn 116) F [.mach, .int w] (enc s g) Q ↔ (Inv s ∧ (0 ≤ w ∧ w < 4294967296 ∧ opcodeOf w.toNat = 19)) ∧ outQ (off s g (exec s w.toNat)) F Q := mD_call (pre := P116) (f := V116)
theorem gd116 {kc : Sts} {kS nA : Nat} (hn : 2 = nA) (h : ∀ (s : Mach) (g : Nat) (w : Int), Inv s → (0 ≤ w ∧ w < 4294967296 ∧ opcodeOf w.toNat = 19) → exs tb (fun i j' m' => ((off s g (exec s w.toNat)) : Out × M) = (.flt i j', m')) kc (senv kS [.mach, .int w]) (enc s g) (fun _ m' => ((off s g (exec s w.toNat)) : Out × M) = (.ok .non, m')) (fun v0 m' => ((off s g (exec s w.toNat)) : Out × M) = (.ok v0, m'))) : Good tb (tb.fn 116) nA kS kc := by
  refine mD_good (pre := P116) (f := V116) fun vs s g i p => ?_
  unfold P116 at p
  split at p
  · exact ⟨hn, h s g _ i p⟩
  · exact p.elim
theorem c117 {F : FQ} {Q : PQ} {s : Mach} {g : Nat} {w : Int} : callQ (tb.fn 117) F [.mach, .int w] (enc s g) Q ↔ (Inv s ∧ (0 ≤ w ∧ w < 4294967296 ∧ opcodeOf w.toNat = 51)) ∧ outQ (off s g (exec s w.toNat)) F Q := mD_call (pre := P117) (f := V117)
theorem gd117 {kc : Sts} {kS nA : Nat} (hn : 2 = nA) (h : ∀ (s : Mach) (g : Nat) (w : Int), Inv s → (0 ≤ w ∧ w < 4294967296 ∧ opcodeOf w.toNat = 51) → exs tb (fun i j' m' => ((off s g (exec s w.toNat)) : Out × M) = (.flt i j', m')) kc (senv kS [.mach, .int w]) (enc s g) (fun _ m' => ((off s g (exec s w.toNat)) : Out × M) = (.ok .non, m')) (fun v0 m' => ((off s g (exec s w.toNat)) : Out × M) = (.ok v0, m'))) : Good tb (tb.fn 117) nA kS kc := by
  refine mD_good (pre := P117) (f := V117) fun vs s g i p => ?_
  unfold P117 at p
  split at p
  · exact ⟨hn, h s g _ i p⟩
  · exact p.elim
theorem c118 {F : FQ} {Q : PQ} {s : Mach} {g : Nat} {o : Int} : callQ (tb.fn 118) F [.mach, .int o] (enc s g) Q ↔ (Inv s ∧ (True)) ∧ outQ ((if ((s.pc : Int) + o) % 18446744073709551616 % 4 = 0 then .ok (.int (((s.pc : Int) + o) % 18446744073709551616)) else .flt 0 (((s.pc : Int) + o) % 18446744073709551616), enc s g)) F Q := mD_call (pre := P118) (f := V118)
theorem gd118 {kc : Sts} {kS nA : Nat} (hn : 2 = nA) (h : ∀ (s : Mach) (g : Nat) (o : Int), Inv s → (True) → exs tb (fun i j' m' => (((if ((s.pc : Int) + o) % 18446744073709551616 % 4 = 0 then .ok (.int (((s.pc : Int) + o) % 18446744073709551616)) else .flt 0 (((s.pc : Int) + o) % 18446744073709551616), enc s g)) : Out × M) = (.flt i j', m')) kc (senv kS [.mach, .int o]) (enc s g) (fun _ m' => (((if ((s.pc : Int) + o) % 18446744073709551616 % 4 = 0 then .ok (.int (((s.pc : Int) + o) % 18446744073709551616)) else .flt 0 (((s.pc : Int) + o) % 18446744073709551616), enc s g)) : Out × M) = (.ok .non, m')) (fun v0 m' => (((if ((s.pc : Int) + o) % 18446744073709551616 % 4 = 0 then .ok (.int (((s.pc : Int) + o) % 18446744073709551616)) else .flt 0 (((s.pc : Int) + o) % 18446744073709551616), enc s g)) : Out × M) = (.ok v0, m'))) : Good tb (tb.fn 118) nA kS kc := by
  refine mD_good (pre := P118) (f := V118) fun vs s g i p => ?_
  unfold P118 at p
  split at p
  · exact ⟨hn, h s g _ i p⟩
  · exact p.elim
theorem c119 {F : FQ} {Q : PQ} {s : Mach} {g : Nat} {w : Int} : callQ (tb.fn 119) F [.mach, .int w] (enc s g) Q ↔ (Inv s ∧ (0 ≤ w ∧ w < 4294967296)) ∧ outQ ((match taken (f3Of w.toNat) (s.xr (rs1Of w.toNat)) (s.xr (rs2Of w.toNat)) with
    | none => .flt 2 w
    | some b => .ok (.bl b), enc s g)) F Q := mD_call (pre := P119) (f := V119)
theorem gd119 {kc : Sts} {kS nA : Nat} (hn : 2 = nA) (h : ∀ (s : Mach) (g : Nat) (w : Int), Inv s → (0 ≤ w ∧ w < 4294967296) → exs tb (fun i j' m' => (((match taken (f3Of w.toNat) (s.xr (rs1Of w.toNat)) (s.xr (rs2Of w.toNat)) with
    | none => .flt 2 w
    | some b => .ok (.bl b), enc s g)) : Out × M) = (.flt i j', m')) kc (senv kS [.mach, .int w]) (enc s g) (fun _ m' => (((match taken (f3Of w.toNat) (s.xr (rs1Of w.toNat)) (s.xr (rs2Of w.toNat)) with
    | none => .flt 2 w
    | some b => .ok (.bl b), enc s g)) : Out × M) = (.ok .non, m')) (fun v0 m' => (((match taken (f3Of w.toNat) (s.xr (rs1Of w.toNat)) (s.xr (rs2Of w.toNat)) with
    | none => .flt 2 w
    | some b => .ok (.bl b), enc s g)) : Out × M) = (.ok v0, m'))) : Good tb (tb.fn 119) nA kS kc := by
  refine mD_good (pre := P119) (f := V119) fun vs s g i p => ?_
  unfold P119 at p
  split at p
  · exact ⟨hn, h s g _ i p⟩
  · exact p.elim
theorem c120 {F : FQ} {Q : PQ} {s : Mach} {g : Nat} {w : Int} : callQ (tb.fn 120) F [.mach, .int w] (enc s g) Q ↔ (Inv s ∧ (0 ≤ w ∧ w < 4294967296 ∧ opcodeOf w.toNat = 99 ∧ s.pc < 4096)) ∧ outQ (on_ s g (exec s w.toNat)) F Q := mD_call (pre := P120) (f := V120)
theorem gd120 {kc : Sts} {kS nA : Nat} (hn : 2 = nA) (h : ∀ (s : Mach) (g : Nat) (w : Int), Inv s → (0 ≤ w ∧ w < 4294967296 ∧ opcodeOf w.toNat = 99 ∧ s.pc < 4096) → exs tb (fun i j' m' => ((on_ s g (exec s w.toNat)) : Out × M) = (.flt i j', m')) kc (senv kS [.mach, .int w]) (enc s g) (fun _ m' => ((on_ s g (exec s w.toNat)) : Out × M) = (.ok .non, m')) (fun v0 m' => ((on_ s g (exec s w.toNat)) : Out × M) = (.ok v0, m'))) : Good tb (tb.fn 120) nA kS kc := by
  refine mD_good (pre := P120) (f := V120) fun vs s g i p => ?_
  unfold P120 at p
  split at p
  · exact ⟨hn, h s g _ i p⟩
  · exact p.elim
theorem c121 {F : FQ} {Q : PQ} {s : Mach} {g : Nat} {w : Int} : callQ (tb.fn 121) F [.mach, .int w] (enc s g) Q ↔ (Inv s ∧ (0 ≤ w ∧ w < 4294967296 ∧ opcodeOf w.toNat = 111 ∧ s.pc < 4096)) ∧ outQ (on_ s g (exec s w.toNat)) F Q := mD_call (pre := P121) (f := V121)
theorem gd121 {kc : Sts} {kS nA : Nat} (hn : 2 = nA) (h : ∀ (s : Mach) (g : Nat) (w : Int), Inv s → (0 ≤ w ∧ w < 4294967296 ∧ opcodeOf w.toNat = 111 ∧ s.pc < 4096) → exs tb (fun i j' m' => ((on_ s g (exec s w.toNat)) : Out × M) = (.flt i j', m')) kc (senv kS [.mach, .int w]) (enc s g) (fun _ m' => ((on_ s g (exec s w.toNat)) : Out × M) = (.ok .non, m')) (fun v0 m' => ((on_ s g (exec s w.toNat)) : Out × M) = (.ok v0, m'))) : Good tb (tb.fn 121) nA kS kc := by
  refine mD_good (pre := P121) (f := V121) fun vs s g i p => ?_
  unfold P121 at p
  split at p
  · exact ⟨hn, h s g _ i p⟩
  · exact p.elim
theorem c122 {F : FQ} {Q : PQ} {s : Mach} {g : Nat} {w : Int} : callQ (tb.fn 122) F [.mach, .int w] (enc s g) Q ↔ (Inv s ∧ (0 ≤ w ∧ w < 4294967296 ∧ opcodeOf w.toNat ≠ 99 ∧ opcodeOf w.toNat ≠ 111 ∧ w ≠ 115)) ∧ outQ (off s g (exec s w.toNat)) F Q := mD_call (pre := P122) (f := V122)
theorem gd122 {kc : Sts} {kS nA : Nat} (hn : 2 = nA) (h : ∀ (s : Mach) (g : Nat) (w : Int), Inv s → (0 ≤ w ∧ w < 4294967296 ∧ opcodeOf w.toNat ≠ 99 ∧ opcodeOf w.toNat ≠ 111 ∧ w ≠ 115) → exs tb (fun i j' m' => ((off s g (exec s w.toNat)) : Out × M) = (.flt i j', m')) kc (senv kS [.mach, .int w]) (enc s g) (fun _ m' => ((off s g (exec s w.toNat)) : Out × M) = (.ok .non, m')) (fun v0 m' => ((off s g (exec s w.toNat)) : Out × M) = (.ok v0, m'))) : Good tb (tb.fn 122) nA kS kc := by
  refine mD_good (pre := P122) (f := V122) fun vs s g i p => ?_
  unfold P122 at p
  split at p
  · exact ⟨hn, h s g _ i p⟩
  · exact p.elim
theorem c123 {F : FQ} {Q : PQ} {s : Mach} {g : Nat} : callQ (tb.fn 123) F [.mach] (enc s g) Q ↔ (Inv s ∧ (True)) ∧ outQ ((.ok (.bl (decide (s.pc = 4 * s.words.length))), enc s g)) F Q := mD_call (pre := P123) (f := V123)
theorem gd123 {kc : Sts} {kS nA : Nat} (hn : 1 = nA) (h : ∀ (s : Mach) (g : Nat), Inv s → (True) → exs tb (fun i j' m' => (((.ok (.bl (decide (s.pc = 4 * s.words.length))), enc s g)) : Out × M) = (.flt i j', m')) kc (senv kS [.mach]) (enc s g) (fun _ m' => (((.ok (.bl (decide (s.pc = 4 * s.words.length))), enc s g)) : Out × M) = (.ok .non, m')) (fun v0 m' => (((.ok (.bl (decide (s.pc = 4 * s.words.length))), enc s g)) : Out × M) = (.ok v0, m'))) : Good tb (tb.fn 123) nA kS kc := by
  refine mD_good (pre := P123) (f := V123) fun vs s g i p => ?_
  unfold P123 at p
  split at p
  · exact ⟨hn, h s g i p⟩
  · exact p.elim
theorem c124 {F : FQ} {Q : PQ} {s : Mach} {g : Nat} : callQ (tb.fn 124) F [.mach] (enc s g) Q ↔ (Inv s ∧ (s.pc ≠ 4 * s.words.length)) ∧ outQ ((if 4 * s.words.length < s.pc ∨ s.pc % 4 ≠ 0 then .flt 1 s.pc else .ok (.int (s.words.getD (s.pc / 4) 0 : Nat)), enc s g)) F Q := mD_call (pre := P124) (f := V124)
theorem gd124 {kc : Sts} {kS nA : Nat} (hn : 1 = nA) (h : ∀ (s : Mach) (g : Nat), Inv s → (s.pc ≠ 4 * s.words.length) → exs tb (fun i j' m' => (((if 4 * s.words.length < s.pc ∨ s.pc % 4 ≠ 0 then .flt 1 s.pc else .ok (.int (s.words.getD (s.pc / 4) 0 : Nat)), enc s g)) : Out × M) = (.flt i j', m')) kc (senv kS [.mach]) (enc s g) (fun _ m' => (((if 4 * s.words.length < s.pc ∨ s.pc % 4 ≠ 0 then .flt 1 s.pc else .ok (.int (s.words.getD (s.pc / 4) 0 : Nat)), enc s g)) : Out × M) = (.ok .non, m')) (fun v0 m' => (((if 4 * s.words.length < s.pc ∨ s.pc % 4 ≠ 0 then .flt 1 s.pc else .ok (.int (s.words.getD (s.pc / 4) 0 : Nat)), enc s g)) : Out × M) = (.ok v0, m'))) : Good tb (tb.fn 124) nA kS kc := by
  refine mD_good (pre := P124) (f := V124) fun vs s g i p => ?_
  unfold P124 at p
  split at p
  · exact ⟨hn, h s g i p⟩
  · exact p.elim
theorem c125 {F : FQ} {Q : PQ} {s : Mach} {g : Nat} : callQ (tb.fn 125) F [.mach] (enc s g) Q ↔ (Inv s ∧ (s.pc ≠ 4 * s.words.length)) ∧ outQ (step_ s g (RvMach.step s)) F Q := mD_call (pre := P125) (f := V125)
theorem gd125 {kc : Sts} {kS nA : Nat} (hn : 1 = nA) (h : ∀ (s : Mach) (g : Nat), Inv s → (s.pc ≠ 4 * s.words.length) → exs tb (fun i j' m' => ((step_ s g (RvMach.step s)) : Out × M) = (.flt i j', m')) kc (senv kS [.mach]) (enc s g) (fun _ m' => ((step_ s g (RvMach.step s)) : Out × M) = (.ok .non, m')) (fun v0 m' => ((step_ s g (RvMach.step s)) : Out × M) = (.ok v0, m'))) : Good tb (tb.fn 125) nA kS kc := by
  refine mD_good (pre := P125) (f := V125) fun vs s g i p => ?_
  unfold P125 at p
  split at p
  · exact ⟨hn, h s g i p⟩
  · exact p.elim
theorem c126 {F : FQ} {Q : PQ} {s : Mach} {g : Nat} {n : Int} : callQ (tb.fn 126) F [.mach, .int n] (enc s g) Q ↔ (Inv s ∧ (0 ≤ n ∧ n ≤ 1000)) ∧ outQ ((.ok (.tup [((RvMach.run n.toNat s).1 : Nat), ((RvMach.run n.toNat s).2.1 : Nat)]), enc (RvMach.run n.toNat s).2.2 g)) F Q := mD_call (pre := P126) (f := V126)
theorem gd126 {kc : Sts} {kS nA : Nat} (hn : 2 = nA) (h : ∀ (s : Mach) (g : Nat) (n : Int), Inv s → (0 ≤ n ∧ n ≤ 1000) → exs tb (fun i j' m' => (((.ok (.tup [((RvMach.run n.toNat s).1 : Nat), ((RvMach.run n.toNat s).2.1 : Nat)]), enc (RvMach.run n.toNat s).2.2 g)) : Out × M) = (.flt i j', m')) kc (senv kS [.mach, .int n]) (enc s g) (fun _ m' => (((.ok (.tup [((RvMach.run n.toNat s).1 : Nat), ((RvMach.run n.toNat s).2.1 : Nat)]), enc (RvMach.run n.toNat s).2.2 g)) : Out × M) = (.ok .non, m')) (fun v0 m' => (((.ok (.tup [((RvMach.run n.toNat s).1 : Nat), ((RvMach.run n.toNat s).2.1 : Nat)]), enc (RvMach.run n.toNat s).2.2 g)) : Out × M) = (.ok v0, m'))) : Good tb (tb.fn 126) nA kS kc := by
  refine mD_good (pre := P126) (f := V126) fun vs s g i p => ?_
  unfold P126 at p
  split at p
  · exact ⟨hn, h s g _ i p⟩
  · exact p.elim
theorem c127 {F : FQ} {Q : PQ} {s : Mach} {g : Nat} {q : Int} : callQ (tb.fn 127) F [.mach, .int q] (enc s g) Q ↔ (Inv s ∧ (0 ≤ q ∧ q ≤ 68)) ∧ outQ ((.ok (.int (((WrrvfpSpec.look s q.toNat).getD 0 : Nat) : Int)), enc s g)) F Q := mD_call (pre := P127) (f := V127)
theorem gd127 {kc : Sts} {kS nA : Nat} (hn : 2 = nA) (h : ∀ (s : Mach) (g : Nat) (q : Int), Inv s → (0 ≤ q ∧ q ≤ 68) → exs tb (fun i j' m' => (((.ok (.int (((WrrvfpSpec.look s q.toNat).getD 0 : Nat) : Int)), enc s g)) : Out × M) = (.flt i j', m')) kc (senv kS [.mach, .int q]) (enc s g) (fun _ m' => (((.ok (.int (((WrrvfpSpec.look s q.toNat).getD 0 : Nat) : Int)), enc s g)) : Out × M) = (.ok .non, m')) (fun v0 m' => (((.ok (.int (((WrrvfpSpec.look s q.toNat).getD 0 : Nat) : Int)), enc s g)) : Out × M) = (.ok v0, m'))) : Good tb (tb.fn 127) nA kS kc := by
  refine mD_good (pre := P127) (f := V127) fun vs s g i p => ?_
  unfold P127 at p
  split at p
  · exact ⟨hn, h s g _ i p⟩
  · exact p.elim
theorem c128 {F : FQ} {Q : PQ} {s : Mach} {g : Nat} {q : Int} {v : Int} : callQ (tb.fn 128) F [.mach, .int q, .int v] (enc s g) Q ↔ (Inv s ∧ ((0 ≤ q ∧ q ≤ 66) ∧ (0 ≤ v ∧ v < 18446744073709551616))) ∧ outQ ((.ok .non, enc ((WrrvfpSpec.change s q.toNat v.toNat).getD s) g)) F Q := mD_call (pre := P128) (f := V128)
theorem gd128 {kc : Sts} {kS nA : Nat} (hn : 3 = nA) (h : ∀ (s : Mach) (g : Nat) (q : Int) (v : Int), Inv s → ((0 ≤ q ∧ q ≤ 66) ∧ (0 ≤ v ∧ v < 18446744073709551616)) → exs tb (fun i j' m' => (((.ok .non, enc ((WrrvfpSpec.change s q.toNat v.toNat).getD s) g)) : Out × M) = (.flt i j', m')) kc (senv kS [.mach, .int q, .int v]) (enc s g) (fun _ m' => (((.ok .non, enc ((WrrvfpSpec.change s q.toNat v.toNat).getD s) g)) : Out × M) = (.ok .non, m')) (fun v0 m' => (((.ok .non, enc ((WrrvfpSpec.change s q.toNat v.toNat).getD s) g)) : Out × M) = (.ok v0, m'))) : Good tb (tb.fn 128) nA kS kc := by
  refine mD_good (pre := P128) (f := V128) fun vs s g i p => ?_
  unfold P128 at p
  split at p
  · exact ⟨hn, h s g _ _ i p⟩
  · exact p.elim
theorem c129 {F : FQ} {Q : PQ} {s : Mach} {g : Nat} {l : List Int} : callQ (tb.fn 129) F [.mach, .lst l] (enc s g) Q ↔ (Inv s ∧ (∀ w ∈ l, 0 ≤ w)) ∧ outQ ((.ok .non, enc { s with words := iN l, pc := 0 } g)) F Q := mD_call (pre := P129) (f := V129)
theorem gd129 {kc : Sts} {kS nA : Nat} (hn : 2 = nA) (h : ∀ (s : Mach) (g : Nat) (l : List Int), Inv s → (∀ w ∈ l, 0 ≤ w) → exs tb (fun i j' m' => (((.ok .non, enc { s with words := iN l, pc := 0 } g)) : Out × M) = (.flt i j', m')) kc (senv kS [.mach, .lst l]) (enc s g) (fun _ m' => (((.ok .non, enc { s with words := iN l, pc := 0 } g)) : Out × M) = (.ok .non, m')) (fun v0 m' => (((.ok .non, enc { s with words := iN l, pc := 0 } g)) : Out × M) = (.ok v0, m'))) : Good tb (tb.fn 129) nA kS kc := by
  refine mD_good (pre := P129) (f := V129) fun vs s g i p => ?_
  unfold P129 at p
  split at p
  · exact ⟨hn, h s g _ i p⟩
  · exact p.elim
theorem c130 {F : FQ} {Q : PQ} {s : Mach} {g : Nat} {a : Int} {l : List Int} : callQ (tb.fn 130) F [.mach, .int a, .lst l] (enc s g) Q ↔ (Inv s ∧ (0 ≤ a ∧ a + l.length ≤ 4096 ∧ ∀ w ∈ l, 0 ≤ w ∧ w ≤ 255)) ∧ outQ ((.ok .non, enc { s with mem := s.mem.take a.toNat ++ (iB l ++ s.mem.drop (a.toNat + l.length)) } g)) F Q := mD_call (pre := P130) (f := V130)
theorem gd130 {kc : Sts} {kS nA : Nat} (hn : 3 = nA) (h : ∀ (s : Mach) (g : Nat) (a : Int) (l : List Int), Inv s → (0 ≤ a ∧ a + l.length ≤ 4096 ∧ ∀ w ∈ l, 0 ≤ w ∧ w ≤ 255) → exs tb (fun i j' m' => (((.ok .non, enc { s with mem := s.mem.take a.toNat ++ (iB l ++ s.mem.drop (a.toNat + l.length)) } g)) : Out × M) = (.flt i j', m')) kc (senv kS [.mach, .int a, .lst l]) (enc s g) (fun _ m' => (((.ok .non, enc { s with mem := s.mem.take a.toNat ++ (iB l ++ s.mem.drop (a.toNat + l.length)) } g)) : Out × M) = (.ok .non, m')) (fun v0 m' => (((.ok .non, enc { s with mem := s.mem.take a.toNat ++ (iB l ++ s.mem.drop (a.toNat + l.length)) } g)) : Out × M) = (.ok v0, m'))) : Good tb (tb.fn 130) nA kS kc := by
  refine mD_good (pre := P130) (f := V130) fun vs s g i p => ?_
  unfold P130 at p
  split at p
  · exact ⟨hn, h s g _ _ i p⟩
  · exact p.elim
theorem c131 {F : FQ} {Q : PQ} {s : Mach} {g : Nat} {q : Int} {l : List Int} : callQ (tb.fn 131) F [.mach, .int q, .lst l] (enc s g) Q ↔ (Inv s ∧ ((6 ≤ q ∧ q ≤ 12) ∧ askN q l ∧ inLim q l = true)) ∧ outQ ((.ok (.lst (Neutral.told (WrrvfpSpec.step s (callN q l)).2).tail), enc (WrrvfpSpec.step s (callN q l)).1 (if q = 6 then g + 1 else g))) F Q := mD_call (pre := P131) (f := V131)
theorem gd131 {kc : Sts} {kS nA : Nat} (hn : 3 = nA) (h : ∀ (s : Mach) (g : Nat) (q : Int) (l : List Int), Inv s → ((6 ≤ q ∧ q ≤ 12) ∧ askN q l ∧ inLim q l = true) → exs tb (fun i j' m' => (((.ok (.lst (Neutral.told (WrrvfpSpec.step s (callN q l)).2).tail), enc (WrrvfpSpec.step s (callN q l)).1 (if q = 6 then g + 1 else g))) : Out × M) = (.flt i j', m')) kc (senv kS [.mach, .int q, .lst l]) (enc s g) (fun _ m' => (((.ok (.lst (Neutral.told (WrrvfpSpec.step s (callN q l)).2).tail), enc (WrrvfpSpec.step s (callN q l)).1 (if q = 6 then g + 1 else g))) : Out × M) = (.ok .non, m')) (fun v0 m' => (((.ok (.lst (Neutral.told (WrrvfpSpec.step s (callN q l)).2).tail), enc (WrrvfpSpec.step s (callN q l)).1 (if q = 6 then g + 1 else g))) : Out × M) = (.ok v0, m'))) : Good tb (tb.fn 131) nA kS kc := by
  refine mD_good (pre := P131) (f := V131) fun vs s g i p => ?_
  unfold P131 at p
  split at p
  · exact ⟨hn, h s g _ _ i p⟩
  · exact p.elim
theorem c132 {F : FQ} {Q : PQ} {μ : M} {l : List Int} {a : Int} : callQ (tb.fn 132) F [.lst l, .int a] μ Q ↔ (sizeOk l a) ∧ Q (.int (sizeN l a)) μ := Iff.rfl
theorem gd132 {kc : Sts} {kS nA : Nat} (hn : 2 = nA) (h : ∀ F (μ : M) (l : List Int) (a : Int), (sizeOk l a) → exs tb F kc (senv kS [.lst l, .int a]) μ (fun _ _ => False) (fun v0 m' => v0 = .int (sizeN l a) ∧ m' = μ)) : Good tb (tb.fn 132) nA kS kc := by
  refine pD_good fun F vs m p => ?_
  split at p
  · exact ⟨hn, h F m _ _ p⟩
  · exact p.elim
theorem c133 {F : FQ} {Q : PQ} {μ : M} {q : Int} {l : List Int} : callQ (tb.fn 133) F [.int q, .lst l] μ Q ↔ ((0 ≤ q ∧ q ≤ 12) ∧ askN q l) ∧ Q (.bl (inLim q l)) μ := Iff.rfl
theorem gd133 {kc : Sts} {kS nA : Nat} (hn : 2 = nA) (h : ∀ F (μ : M) (q : Int) (l : List Int), ((0 ≤ q ∧ q ≤ 12) ∧ askN q l) → exs tb F kc (senv kS [.int q, .lst l]) μ (fun _ _ => False) (fun v0 m' => v0 = .bl (inLim q l) ∧ m' = μ)) : Good tb (tb.fn 133) nA kS kc := by
  refine pD_good fun F vs m p => ?_
  split at p
  · exact ⟨hn, h F m _ _ p⟩
  · exact p.elim
theorem c134 {F : FQ} {Q : PQ} {μ : M} {q : Int} {l : List Int} : callQ (tb.fn 134) F [.int q, .lst l] μ Q ↔ ((0 ≤ q ∧ q ≤ 5) ∧ askN q l ∧ inLim q l = true) ∧ Q (.lst (Neutral.told (WrrvfpSpec.step blank (callN q l)).2).tail) μ := Iff.rfl
theorem gd134 {kc : Sts} {kS nA : Nat} (hn : 2 = nA) (h : ∀ F (μ : M) (q : Int) (l : List Int), ((0 ≤ q ∧ q ≤ 5) ∧ askN q l ∧ inLim q l = true) → exs tb F kc (senv kS [.int q, .lst l]) μ (fun _ _ => False) (fun v0 m' => v0 = .lst (Neutral.told (WrrvfpSpec.step blank (callN q l)).2).tail ∧ m' = μ)) : Good tb (tb.fn 134) nA kS kc := by
  refine pD_good fun F vs m p => ?_
  split at p
  · exact ⟨hn, h F m _ _ p⟩
  · exact p.elim
theorem c135 {F : FQ} {Q : PQ} {s : Mach} {g : Nat} {q : Int} {l : List Int} : callQ (tb.fn 135) F [.mach, .int q, .lst l] (enc s g) Q ↔ (Inv s ∧ ((0 ≤ q ∧ q ≤ 12) ∧ askN q l)) ∧ outQ ((.ok (.lst (Neutral.told (WrrvfpSpec.step s (callN q l)).2)), enc (WrrvfpSpec.step s (callN q l)).1 (if q = 6 then g + 1 else g))) F Q := mD_call (pre := P135) (f := V135)
theorem gd135 {kc : Sts} {kS nA : Nat} (hn : 3 = nA) (h : ∀ (s : Mach) (g : Nat) (q : Int) (l : List Int), Inv s → ((0 ≤ q ∧ q ≤ 12) ∧ askN q l) → exs tb (fun i j' m' => (((.ok (.lst (Neutral.told (WrrvfpSpec.step s (callN q l)).2)), enc (WrrvfpSpec.step s (callN q l)).1 (if q = 6 then g + 1 else g))) : Out × M) = (.flt i j', m')) kc (senv kS [.mach, .int q, .lst l]) (enc s g) (fun _ m' => (((.ok (.lst (Neutral.told (WrrvfpSpec.step s (callN q l)).2)), enc (WrrvfpSpec.step s (callN q l)).1 (if q = 6 then g + 1 else g))) : Out × M) = (.ok .non, m')) (fun v0 m' => (((.ok (.lst (Neutral.told (WrrvfpSpec.step s (callN q l)).2)), enc (WrrvfpSpec.step s (callN q l)).1 (if q = 6 then g + 1 else g))) : Out × M) = (.ok v0, m'))) : Good tb (tb.fn 135) nA kS kc := by
  refine mD_good (pre := P135) (f := V135) fun vs s g i p => ?_
  unfold P135 at p
  split at p
  · exact ⟨hn, h s g _ _ i p⟩
  · exact p.elim
end FH
end
section
set_option linter.all false
set_option Elab.async false
set_option maxRecDepth 100000
set_option maxHeartbeats 4000000
namespace FHG
open PySem PySem.Spec PyProof.Rows L2 FH
/-! ### what the checks say -/
theorem eqI_ok : ∀ {l : List Int} {us : List Value}, eqI l us = true → Vals (vI l) us
  | [], [], _ => .nil
  | [], _ :: _, h => by cases h
  | _ :: _, [], h => by cases h
  | i :: l, u :: us, h => by
    cases u with
    | int j t =>
      obtain ⟨h1, h2⟩ := He.ba (show (decide (j = i) && eqI l us) = true from h)
      have e : j = i := of_decide_eq_true h1
      exact .cons ⟨t, by rw [e]⟩ (eqI_ok h2)
    | _ => cases h
theorem eqA_ok : ∀ {l : List Nat} {us : List Value}, eqA l us = true → Vals (l.map V.ref) us
  | [], [], _ => .nil
  | [], _ :: _, h => by cases h
  | _ :: _, [], h => by cases h
  | i :: l, u :: us, h => by
    cases u with
    | ref j =>
      obtain ⟨h1, h2⟩ := He.ba (show (decide (j = i) && eqA l us) = true from h)
      have e : j = i := of_decide_eq_true h1
      exact .cons (by rw [e]; rfl) (eqA_ok h2)
    | _ => cases h
theorem tupA_ok {K : PySem.W.Frag} {a : Addr} {l : List Int} (h : tupA K a l = true) (H : Hp) : SqT K H a (vI l) := by
  unfold tupA at h
  split at h
  · rename_i c dd its n sl q
    obtain ⟨h1, h⟩ := He.ba h
    obtain ⟨h2, h3⟩ := He.ba h
    exact .inr ⟨_, its, n, q, congrArg Value.type (of_decide_eq_true h1), rfl, of_decide_eq_true h2, eqI_ok h3⟩
  · cases h
theorem tupR_ok {K : PySem.W.Frag} {a : Addr} {l : List Nat} (h : tupR K a l = true) (H : Hp) : SqT K H a (l.map V.ref) := by
  unfold tupR at h
  split at h
  · rename_i c dd its n sl q
    obtain ⟨h1, h⟩ := He.ba h
    obtain ⟨h2, h3⟩ := He.ba h
    exact .inr ⟨_, its, n, q, congrArg Value.type (of_decide_eq_true h1), rfl, of_decide_eq_true h2, eqA_ok h3⟩
  · cases h
theorem tupsA_ok {K : PySem.W.Frag} : ∀ {as : List Nat} {ls : List (List Int)}, tupsA K as ls = true → ∀ (i : Nat) (a : Nat), as[i]? = some a → ∃ l, ls[i]? = some l ∧ tupA K a l = true
  | [], _, _, i, a, e => by simp at e
  | _ :: _, [], h, _, _, _ => by cases h
  | b :: as, l :: ls, h, 0, a, e => by
    obtain ⟨h1, h2⟩ := He.ba (show (tupA K b l && tupsA K as ls) = true from h)
    have e : b = a := Option.some.inj e
    subst e
    exact ⟨l, rfl, h1⟩
  | b :: as, l :: ls, h, i + 1, a, e => by
    obtain ⟨h1, h2⟩ := He.ba (show (tupA K b l && tupsA K as ls) = true from h)
    exact tupsA_ok h2 i a e
theorem dicsB_ok {K : PySem.W.Frag} : ∀ {as : List Nat} {ls : List (List (Int × PV))}, dicsB K as ls = true → ∀ (i : Nat) (a : Nat), as[i]? = some a → ∃ l, ls[i]? = some l ∧ dicB K a l = true
  | [], _, _, i, a, e => by simp at e
  | _ :: _, [], h, _, _, _ => by cases h
  | b :: as, l :: ls, h, 0, a, e => by
    obtain ⟨h1, h2⟩ := He.ba (show (dicB K b l && dicsB K as ls) = true from h)
    have e : b = a := Option.some.inj e
    subst e
    exact ⟨l, rfl, h1⟩
  | b :: as, l :: ls, h, i + 1, a, e => by
    obtain ⟨h1, h2⟩ := He.ba (show (dicB K b l && dicsB K as ls) = true from h)
    exact dicsB_ok h2 i a e
theorem pvB_ok {K : PySem.W.Frag} {pv : PV} {u : Value} (h : pvB K pv u = true) : ∃ z, RelV z u ∧ ∀ (a : Addr) (Sh : Addr → Prop) (H : Hp) (P : Pt), Rl K a Sh H P pv z := by
  cases pv with
  | int i =>
    cases u with
    | int j t =>
      have e : j = i := of_decide_eq_true h
      exact ⟨.int i, ⟨t, by rw [e]⟩, fun _ _ _ _ => rfl⟩
    | _ => cases h
  | tup l =>
    cases u with
    | ref p => exact ⟨.ref p, rfl, fun _ _ H _ => ⟨p, rfl, tupA_ok h H⟩⟩
    | _ => cases h
  | _ => cases u <;> cases h
theorem entB_keys {K : PySem.W.Frag} {P : Program} {w : World} : ∀ {es : List DictEntry} {l : List (Int × PV)}, entB K es l = true → ∀ e ∈ es, ∃ k, (PySem.intKind P w).is k e.key = true ∧ e.hash = (PySem.intKind P w).hash k
  | [], _, _, e, he => by cases he
  | _ :: _, [], h, _, _ => by cases h
  | d :: es, (i, pv) :: l, h, e, he => by
    obtain ⟨h1, h⟩ := He.ba (show ((match d.key with | .int j _ => decide (j = i) | _ => false) && (decide (d.hash = hashInt i) && (pvB K pv d.val && entB K es l))) = true from h)
    obtain ⟨h2, h⟩ := He.ba h
    obtain ⟨_, h4⟩ := He.ba h
    rcases List.mem_cons.mp he with z | z
    · subst z
      refine ⟨i, ?_, of_decide_eq_true h2⟩
      cases q : e.key with
      | int j t =>
        rw [q] at h1
        have e : j = i := of_decide_eq_true h1
        rw [e]
        exact PySem.intKind_is P w i t
      | _ => rw [q] at h1; cases h1
    · exact entB_keys h4 e z
theorem entB_find {K : PySem.W.Frag} (i : Int) : ∀ {es : List DictEntry} {l : List (Int × PV)}, entB K es l = true → match dig l i with
    | some pv => ∃ u, (es.find? fun e => Value.isInt i e.key).map (·.val) = some u ∧ pvB K pv u = true
    | none => (es.find? fun e => Value.isInt i e.key).map (·.val) = none
  | [], [], _ => rfl
  | [], _ :: _, h => by cases h
  | _ :: _, [], h => by cases h
  | d :: es, (k, pv) :: l, h => by
    obtain ⟨h1, h⟩ := He.ba (show ((match d.key with | .int j _ => decide (j = k) | _ => false) && (decide (d.hash = hashInt k) && (pvB K pv d.val && entB K es l))) = true from h)
    obtain ⟨_, h⟩ := He.ba h
    obtain ⟨h3, h4⟩ := He.ba h
    have key : Value.isInt i d.key = decide (k = i) := by
      cases q : d.key with
      | int j t =>
        rw [q] at h1
        have e : j = k := of_decide_eq_true h1
        subst e
        show (j == i) = _
        by_cases z : j = i
        · rw [decide_eq_true z, z, beq_self_eq_true]
        · rw [decide_eq_false z, beq_eq_false_iff_ne.mpr z]
      | _ => rw [q] at h1; cases h1
    unfold dig
    by_cases z : k = i
    · rw [if_pos z]
      refine ⟨d.val, ?_, h3⟩
      rw [List.find?_cons_of_pos (p := fun e : DictEntry => Value.isInt i e.key) (by rw [key, decide_eq_true z])]
      rfl
    · rw [if_neg z]
      have e : ((d :: es).find? fun e => Value.isInt i e.key) = es.find? fun e => Value.isInt i e.key := List.find?_cons_of_neg (p := fun e : DictEntry => Value.isInt i e.key) (by rw [key, decide_eq_false z]; exact Bool.false_ne_true)
      rw [e]
      exact entB_find i h4
/-- a dict of the module, int keys -/
structure IntD (K : PySem.W.Frag) (a : Addr) (l : List (Int × PV)) : Prop where
  map : ∀ (P : Program) (w : World) (h : Heap), K.In h → ∃ f, h.MapOf (PySem.intKind P w) a f ∧ ∀ i, match dig l i with
    | some pv => ∃ u, f i = some u ∧ pvB K pv u = true
    | none => f i = none
  low : (a == sysModules) = false
theorem dicB_ok {K : PySem.W.Frag} {a : Addr} {l : List (Int × PV)} (h : dicB K a l = true) (low : (a == sysModules) = false) : IntD K a l := by
  unfold dicB at h
  split at h
  · rename_i c es n sl q
    obtain ⟨h1, h⟩ := He.ba h
    obtain ⟨h2, h3⟩ := He.ba h
    refine ⟨fun P w hp X => ⟨fun i => findBy Value.isInt es i, ⟨_, es, n, X _ _ q, ⟨congrArg Value.type (of_decide_eq_true h1), rfl, ?_⟩, rfl, fun e he => entB_keys h3 e (Array.mem_toList_iff.mpr he), fun _ => rfl⟩, fun i => ?_⟩, low⟩
    · exact Array.isEmpty_iff.mp h2
    · have z := entB_find i h3
      have e : findBy Value.isInt es i = (es.toList.find? fun e => Value.isInt i e.key).map (·.val) := by
        obtain ⟨l⟩ := es
        unfold findBy
        rw [List.find?_toArray]
      show match dig l i with
        | some pv => ∃ u, findBy Value.isInt es i = some u ∧ pvB K pv u = true
        | none => findBy Value.isInt es i = none
      rw [e]
      exact z
  · cases h
section
variable {X : Cx} {p : Addr} {l : List (Int × PV)}
theorem op_in_int (D : IntD X.K p l) : OpR X (compareOp .In) (fun u v H Q => ∃ i, u = .int i ∧ v = .ref p ∧ Q (.bl (dig l i).isSome) H) := by
  intro pins s σ H x y v u Q I rx ry h
  obtain ⟨i, rfl, rfl, q⟩ := h
  obtain ⟨t, rfl⟩ := rx
  cases ry
  obtain ⟨f, hm, hf⟩ := D.map X.prog X.w _ I.kIn
  refine wpAny_in_of (PySem.intKind_is X.prog X.w i t) D.low hm ?_
  have e : (f i).isSome = (dig l i).isSome := by
    have z := hf i
    cases q2 : dig l i with
    | none =>
      rw [q2] at z
      rw [show f i = none from z]
      rfl
    | some pv =>
      rw [q2] at z
      obtain ⟨u, z, _⟩ := z
      rw [z]
      rfl
  rw [e]
  exact ⟨.bl (dig l i).isSome, H, I.tok _, rfl, q⟩
theorem ix_int (D : IntD X.K p l) : IxR X (fun u v H Q => ∃ i pv, u = .ref p ∧ v = .int i ∧ dig l i = some pv ∧ ∀ z, (∀ a Sh P, Rl X.K a Sh H P pv z) → Q z H) := by
  intro value slice pins s σ H x y v u Q I rx ry h hs
  obtain ⟨i, pv, rfl, rfl, e, q⟩ := h
  obtain rfl : v = Value.ref p := rx
  obtain ⟨t, rfl⟩ := ry
  obtain ⟨f, hm, hf⟩ := D.map X.prog X.w _ I.kIn
  have z := hf i
  rw [e] at z
  obtain ⟨u, z, hp⟩ := z
  obtain ⟨r, ru, rl⟩ := pvB_ok hp
  exact tail_any hm.typeIs slot_dict_getitem.lookup (wpAny_getItem_of (PySem.intKind_is X.prog X.w i t) hm z ⟨r, H, I.tok _, ru, q r fun a Sh P => rl a Sh H P⟩) hs
end
/-! ### classes -/
theorem clsB_ok {K : PySem.W.Frag} {C : Addr} (h : clsB K C = true) : Cls K C := by
  obtain ⟨c1, h⟩ := He.ba h
  obtain ⟨c2, h⟩ := He.ba h
  obtain ⟨c3, c4⟩ := He.ba h
  exact ⟨c1, c2, c3, He.eqO_ok c4⟩
theorem methB_ok {K : PySem.W.Frag} {C f : Addr} {m : Str} (h : methB K C m f = true) : Meth K C m f := by
  obtain ⟨c1, h⟩ := He.ba h
  obtain ⟨c2, c3⟩ := He.ba h
  exact ⟨He.eqO_ok c1, c2, c3⟩
theorem methsB_ok {K : PySem.W.Frag} {C : Addr} : ∀ {ms : List Str} {fs : List Nat}, methsB K C ms fs = true → ∀ (i : Nat) (m : Str), ms[i]? = some m → ∃ f, fs[i]? = some f ∧ Meth K C m f
  | [], _, _, i, a, e => by simp at e
  | _ :: _, [], h, _, _, _ => by cases h
  | b :: ms, f :: fs, h, 0, a, e => by
    obtain ⟨h1, h2⟩ := He.ba (show (methB K C b f && methsB K C ms fs) = true from h)
    have e : b = a := Option.some.inj e
    subst e
    exact ⟨f, rfl, methB_ok h1⟩
  | b :: ms, f :: fs, h, i + 1, a, e => by
    obtain ⟨h1, h2⟩ := He.ba (show (methB K C b f && methsB K C ms fs) = true from h)
    exact methsB_ok h2 i a e
theorem mkB_ok {K : PySem.W.Frag} {C f : Addr} (h : mkB K C f = true) : Mk K C f := by
  obtain ⟨c1, h⟩ := He.ba h
  obtain ⟨c2, h⟩ := He.ba h
  obtain ⟨c3, c4⟩ := He.ba h
  exact ⟨c1, He.eqO_ok c2, c3, c4⟩
theorem noB_ok {K : PySem.W.Frag} {C : Addr} {x : Str} (h : noB K C x = true) : NoAttr K C x := He.eqO_ok h
theorem fxB_ok {K : PySem.W.Frag} {C : Addr} (h : fxB K C = true) : ∃ nm q N bs sn sub ab col dd k0 k1 k2 k3 k5, K.lookup C = some (excClassObj nm q C N bs PySem.ESX.exTail true sn sub ab col dd k0 k1 k2 k3 k5 "Exception.__new__") := by
  unfold fxB at h
  split at h
  · rename_i c dd cd sl ho
    obtain ⟨h1, h⟩ := He.ba h
    have h1 := of_decide_eq_true h1
    split at h
    · rename_i C' bm k0 k1 k2 k3 n k5 hm hs
      obtain ⟨d1, h⟩ := He.ba h
      obtain ⟨d2, h⟩ := He.ba h
      obtain ⟨d3, h⟩ := He.ba h
      obtain ⟨d4, e5⟩ := He.ba h
      replace d1 := of_decide_eq_true d1
      replace d2 := of_decide_eq_true d2
      replace d3 : cd.hasDel = false := by
        cases z : cd.hasDel with
        | false => rfl
        | true => rw [z] at d3; cases d3
      replace d4 := of_decide_eq_true d4
      obtain ⟨nm, bs, mro, ns, qn, hd, sn, sub, ab, col, del⟩ := cd
      dsimp only at hm d3 e5
      subst hm d1 d2 d3 d4 e5 h1
      have hsl : sl = #[k0, k1, k2, k3, some (.builtin "Exception.__new__"), k5] := by
        obtain ⟨l⟩ := sl
        simp only at hs
        rw [hs]
      subst hsl
      exact ⟨nm, qn, ns, bs, sn, sub, ab, col, dd, k0, k1, k2, k3, k5, ho⟩
    · cases h
  · cases h
structure FxAll (K : PySem.W.Frag) (C f : Addr) : Prop where
  fx : FxC K C
  iC : PySem.W.findIn K (.ref C) "__init__" = some (some (.ref f))
  tI : PySem.W.typeIn K (.ref f) = some (.type "function")
  te : PySem.W.exmOne K (.ref C) (.ref C) = some true
theorem fxB2_ok {K : PySem.W.Frag} {C f : Addr} (h0 : fxB K C = true) (h : fxB2 K C f = true) : FxAll K C f := by
  obtain ⟨c1, h⟩ := He.ba h
  obtain ⟨c2, h⟩ := He.ba h
  obtain ⟨c3, h⟩ := He.ba h
  obtain ⟨c4, h⟩ := He.ba h
  obtain ⟨c5, h⟩ := He.ba h
  obtain ⟨c6, h⟩ := He.ba h
  obtain ⟨c7, h⟩ := He.ba h
  obtain ⟨c8, c9⟩ := He.ba h
  exact ⟨⟨fxB_ok h0, He.eqO_ok c1, of_decide_eq_true c2, of_decide_eq_true c3, c4, He.eqO_ok c5, He.eqO_ok c6⟩, He.eqO_ok c7, of_decide_eq_true c8, of_decide_eq_true c9⟩
end FHG
end
section
set_option linter.all false
set_option Elab.async false
set_option maxRecDepth 100000
set_option maxHeartbeats 4000000
namespace FHG
open PySem PySem.Spec PyProof.Rows L2 FH
/-! ### what the summaries say -/
theorem smF_cases : ∀ l : List Value, (∃ q a n r, l = a :: .str q n :: r ∧ smF l = .code q) ∨ smF l = .oth
  | [] => .inr rfl
  | [_] => .inr rfl
  | a :: b :: r => by
    cases b with
    | str q n => exact .inl ⟨q, a, n, r, rfl, rfl⟩
    | _ => exact .inr rfl
theorem smry_fn {o : Option Obj} {n q : Str} {st : Stmt} {c : Nat} (h : smry o = fnS n q st c) : ∃ oc od osl kV doc pm an ct, o = some ⟨oc, od, .func (PySem.W.fnOf n q (defArgs st) (defBody st) (defScope st) .none kV doc pm an (.ref c) ct), osl⟩ := by
  cases o with
  | none => cases h
  | some o =>
    obtain ⟨oc, od, dt, osl⟩ := o
    cases dt with
    | func fd =>
      obtain ⟨n1, n2, n3, n4, n5, n6, n7, n8, n9, n10, n11, n12, n13, n14, n15⟩ := fd
      have e : (Sm.fn n1 n2 n3 n4 n5 n6 n7 (noneV n8) (nvO n13) n15) = Sm.fn n q (defArgs st) (.stmts (defBody st)) (defScope st) mainGlobals [] true (.adr c) builtinsNs := h
      simp only [Sm.fn.injEq] at e
      obtain ⟨h1, h2, h3, h4, h5, h6, h7, h8, h9, h10⟩ := e
      have e8 : n8 = .none := by
        cases n8 with
        | none => rfl
        | _ => cases h8
      have e13 : n13 = .ref c := by
        cases n13 with
        | ref z => exact congrArg Value.ref (Nv.adr.inj h9)
        | _ => cases h9
      subst h1 h2 h3 h4 h5 h6 h7 e8 e13 h10
      exact ⟨oc, od, osl, n9, n10, n11, n12, n14, rfl⟩
    | fields vs =>
      have e : smF vs.toList = fnS n q st c := h
      rcases smF_cases vs.toList with ⟨_, _, _, _, _, z⟩ | z
      · rw [z] at e; cases e
      · rw [z] at e; cases e
    | _ => cases h
theorem smry_code {o : Option Obj} {q : Str} (h : smry o = .code q) : ∃ oc od vs osl a n r, o = some ⟨oc, od, .fields vs, osl⟩ ∧ vs.toList = a :: .str q n :: r := by
  cases o with
  | none => cases h
  | some o =>
    obtain ⟨oc, od, dt, osl⟩ := o
    cases dt with
    | fields vs =>
      have e : smF vs.toList = .code q := h
      rcases smF_cases vs.toList with ⟨q', a, n, r, e1, z⟩ | z
      · rw [z] at e
        cases e
        exact ⟨oc, od, vs, osl, a, n, r, rfl, e1⟩
      · rw [z] at e; cases e
    | _ => cases h
theorem smry_ns {o : Option Obj} {l : List (Option Str × Nv)} (h : smry o = .ns l) : ∃ oc od es m osl, o = some ⟨oc, od, .dict es m, osl⟩ ∧ (es.toList.map fun e => (keyS e.key, nvO e.val)) = l := by
  cases o with
  | none => cases h
  | some o =>
    obtain ⟨oc, od, dt, osl⟩ := o
    cases dt with
    | dict es m => exact ⟨oc, od, es, m, osl, rfl, Sm.ns.inj h⟩
    | fields vs =>
      have e : smF vs.toList = .ns l := h
      rcases smF_cases vs.toList with ⟨_, _, _, _, _, z⟩ | z
      · rw [z] at e; cases e
      · rw [z] at e; cases e
    | _ => cases h
theorem funD_of {K : PySem.W.Frag} {n q : Str} {st : Stmt} {a c : Nat} (h1 : smry (K.lookup a) = fnS n q st c) (h2 : smry (K.lookup c) = .code q) : ∃ fd, FnP K n q st a fd := by
  obtain ⟨oc, od, osl, kV, doc, pm, an, ct, e⟩ := smry_fn h1
  obtain ⟨oc2, od2, vs, osl2, a2, n2, r, e2, e3⟩ := smry_code h2
  refine ⟨_, ⟨oc, od, .none, kV, doc, pm, an, .ref c, ct, osl, rfl, e, ?_, .inl ⟨rfl, rfl⟩, .inl rfl⟩, ?_⟩
  · unfold PySem.W.codeIn
    dsimp only
    rw [e2]
    dsimp only
    rw [e3]
    exact beq_self_eq_true q
  · unfold PySem.W.keepIn
    dsimp only
    rw [e]
theorem s_at {K : PySem.W.Frag} (S : SaysO K) {i a : Nat} {s : Sm} (e1 : smA[i]? = some a) (e2 : smL[i]? = some s) : smry (K.lookup a) = s := by
  have z : (smA.map fun a => smry (K.lookup a))[i]? = smL[i]? := congrArg (fun l : List Sm => l[i]?) S.s
  rw [List.getElem?_map, e1, e2] at z
  exact Option.some.inj z
theorem fnW_eq : fnW = (List.range 137).map fun j => fnS (fnL.getD j "") (qualL.getD j "") (stOf j) (adL.getD j 0 - 1) := by rfl
theorem ad_len : adL.length = 137 := by rfl
theorem qu_len : qualL.length = 137 := by rfl
theorem fn_len : fnL.length = 137 := by rfl
theorem get_of {α : Type} {l : List α} {d : α} {j : Nat} (h : j < l.length) : l[j]? = some (l.getD j d) := by
  rw [List.getD_eq_getElem?_getD, List.getElem?_eq_getElem h]
  rfl
theorem fnW_at {j : Nat} (h : j < 137) : fnW[j]? = some (fnS (fnL.getD j "") (qualL.getD j "") (stOf j) (adL.getD j 0 - 1)) := by
  rw [fnW_eq, List.getElem?_map, List.getElem?_range h]
  rfl
theorem fnW_len : fnW.length = 137 := by rw [fnW_eq, List.length_map, List.length_range]
/-- the def at place j of the tables -/
theorem fn_at {K : PySem.W.Frag} (S : SaysO K) {j : Nat} (h : j < 137) : ∃ fd, FnP K (fnL.getD j "") (qualL.getD j "") (stOf j) (adL.getD j 0) fd := by
  have ha : adL[j]? = some (adL.getD j 0) := get_of (by rw [ad_len]; exact h)
  have hq : qualL[j]? = some (qualL.getD j "") := get_of (by rw [qu_len]; exact h)
  refine funD_of (c := adL.getD j 0 - 1) (s_at S (i := j + 5) ?_ ?_) (s_at S (i := j + 137 + 5) ?_ ?_)
  · show (adL ++ adL.map fun a => a - 1)[j]? = _
    rw [List.getElem?_append_left (by rw [ad_len]; exact h)]
    exact ha
  · show (fnW ++ qualL.map Sm.code)[j]? = _
    rw [List.getElem?_append_left (by rw [fnW_len]; exact h)]
    exact fnW_at h
  · show (adL ++ adL.map fun a => a - 1)[j + 137]? = _
    rw [List.getElem?_append_right (by rw [ad_len]; omega), ad_len, Nat.add_sub_cancel, List.getElem?_map, ha]
    rfl
  · show (fnW ++ qualL.map Sm.code)[j + 137]? = _
    rw [List.getElem?_append_right (by rw [fnW_len]; omega), fnW_len, Nat.add_sub_cancel, List.getElem?_map, hq]
    rfl
theorem mi_at {K : PySem.W.Frag} (S : SaysO K) : ∃ fd, FnP K "__init__" "Machine.__init__" sMi miA fd := funD_of (c := miA - 1) (s_at S (i := 1) rfl rfl) (s_at S (i := 2) rfl rfl)
theorem fi_at {K : PySem.W.Frag} (S : SaysO K) : ∃ fd, FnP K "__init__" "Fault.__init__" sFi fiA fd := funD_of (c := fiA - 1) (s_at S (i := 3) rfl rfl) (s_at S (i := 4) rfl rfl)
/-! ### the module's names -/
def lk (l : List (Option Str × Nv)) (x : Str) : Option Nv := (l.find? fun p => match p.1 with
  | some y => y == x
  | none => false).map (·.2)
theorem lk_find (x : Str) : ∀ es : List DictEntry, (es.find? fun e => e.key.isStr x).map (fun e => nvO e.val) = lk (es.map fun e => (keyS e.key, nvO e.val)) x
  | [] => rfl
  | e :: es => by
    have k : (match keyS e.key with | some y => y == x | none => false) = e.key.isStr x := by
      cases e.key <;> rfl
    rw [List.map_cons]
    unfold lk
    cases q : e.key.isStr x with
    | true =>
      rw [List.find?_cons_of_pos (p := fun e : DictEntry => e.key.isStr x) q, List.find?_cons_of_pos (p := fun p : Option Str × Nv => match p.1 with | some y => y == x | none => false) (by rw [← q]; exact k)]
      rfl
    | false =>
      have n1 : ((e :: es).find? fun e => e.key.isStr x) = es.find? fun e => e.key.isStr x := List.find?_cons_of_neg (p := fun e : DictEntry => e.key.isStr x) (by rw [q]; exact Bool.false_ne_true)
      have n2 : (((keyS e.key, nvO e.val) :: es.map fun e => (keyS e.key, nvO e.val)).find? fun p : Option Str × Nv => match p.1 with | some y => y == x | none => false) = (es.map fun e => (keyS e.key, nvO e.val)).find? fun p : Option Str × Nv => match p.1 with | some y => y == x | none => false :=
        List.find?_cons_of_neg (p := fun p : Option Str × Nv => match p.1 with | some y => y == x | none => false) (by
          have k2 := k.trans q
          intro z
          exact Bool.noConfusion (z.symm.trans k2))
      rw [n1, n2]
      exact lk_find x es
structure Glob (K : PySem.W.Frag) (mg : Str → Option Value) : Prop where
  adr : ∀ x a, lk nsW x = some (.adr a) → mg x = some (.ref a)
  int : ∀ x i, lk nsW x = some (.int i) → ∃ t, mg x = some (.int i t)
  non : ∀ x, lk nsW x = none → mg x = none
theorem named : nsW.all (fun p => p.1.isSome) = true := by decide +kernel
theorem glob_of {K : PySem.W.Frag} {h : Heap} {mg : Str → Option Value} (S : SaysO K) (X : K.In h) (G : h.Ns mainGlobals mg) : Glob K mg := by
  obtain ⟨oc, od, es, m, osl, e, el⟩ := smry_ns (s_at S (i := 0) rfl rfl : smry (K.lookup mainGlobals) = .ns nsW)
  have f := fun x => lk_find x es.toList
  rw [el] at f
  have ns : ∀ x, PySem.W.nsIn K mainGlobals x = match es.toList.find? (·.key.isStr x) with
      | some e => some (some e.val)
      | none => if es.toList.any (·.refKey) then none else some none := fun x => by
    unfold PySem.W.nsIn
    rw [e]
    rfl
  have noref : es.toList.any (·.refKey) = false := by
    rw [List.any_eq_false]
    intro d hd z
    have a1 := List.all_eq_true.mp named (keyS d.key, nvO d.val) (by rw [← el]; exact List.mem_map_of_mem hd)
    unfold DictEntry.refKey at z
    cases q : d.key with
    | ref a => rw [q] at a1; cases a1
    | _ => rw [q] at z; cases z
  refine ⟨fun x a h => ?_, fun x i h => ?_, fun x h => ?_⟩
  · have fx := f x
    have nx := ns x
    rw [h] at fx
    cases q : es.toList.find? (·.key.isStr x) with
    | none => rw [q] at fx; cases fx
    | some d =>
      rw [q] at fx nx
      have v : d.val = .ref a := by
        have fx : nvO d.val = .adr a := Option.some.inj fx
        cases q2 : d.val with
        | ref z => rw [q2] at fx; exact congrArg Value.ref (Nv.adr.inj fx)
        | _ => rw [q2] at fx; cases fx
      refine PySem.W.mg_of X G ?_
      rw [nx, ← v]
  · have fx := f x
    have nx := ns x
    rw [h] at fx
    cases q : es.toList.find? (·.key.isStr x) with
    | none => rw [q] at fx; cases fx
    | some d =>
      rw [q] at fx nx
      have v : ∃ t, d.val = .int i t := by
        have fx : nvO d.val = .int i := Option.some.inj fx
        cases q2 : d.val with
        | int z t => rw [q2] at fx; exact ⟨t, by rw [Nv.int.inj fx]⟩
        | _ => rw [q2] at fx; cases fx
      obtain ⟨t, v⟩ := v
      refine ⟨t, PySem.W.mg_of X G ?_⟩
      rw [nx, ← v]
  · have fx := f x
    have nx := ns x
    rw [h] at fx
    cases q : es.toList.find? (·.key.isStr x) with
    | some d => rw [q] at fx; cases fx
    | none =>
      rw [q] at nx
      refine PySem.W.mg_none_of X G ?_
      rw [nx, noref]
      rfl
/-! ### by the tables -/
def isI (o : Option Nv) (i : Int) : Bool := match o with
  | some (.int j) => decide (j = i)
  | _ => false
def isA (o : Option Nv) (a : Nat) : Bool := match o with
  | some (.adr b) => decide (b = a)
  | _ => false
def isN (o : Option Nv) : Bool := match o with
  | none => true
  | _ => false
theorem isI_ok {o : Option Nv} {i : Int} (h : isI o i = true) : o = some (.int i) := by
  unfold isI at h
  split at h
  · rw [of_decide_eq_true h]
  · cases h
theorem isA_ok {o : Option Nv} {a : Nat} (h : isA o a = true) : o = some (.adr a) := by
  unfold isA at h
  split at h
  · rw [of_decide_eq_true h]
  · cases h
theorem isN_ok {o : Option Nv} (h : isN o = true) : o = none := by
  unfold isN at h
  split at h
  · rfl
  · cases h
theorem con_all : (List.range conL.length).all (fun k => isI (lk nsW (conL.getD k "")) (conV.getD k 0)) = true := by decide +kernel
theorem ct_all : (List.range ctL.length).all (fun k => isA (lk nsW (ctL.getD k "")) (ctA.getD k 0)) = true := by decide +kernel
theorem di_all : (List.range diL.length).all (fun k => isA (lk nsW (diL.getD k "")) (diA.getD k 0)) = true := by decide +kernel
theorem fn_all : (List.range 137).all (fun j => isMt j || isA (lk nsW (fnL.getD j "")) (adL.getD j 0)) = true := by decide +kernel
theorem bl_all : (("Exception" : Str) :: noBlt).all (fun x => isN (lk nsW x)) = true := by decide +kernel
theorem cl_a : isA (lk nsW "Machine") clA = true := by decide +kernel
theorem fx_a : isA (lk nsW "Fault") fxA = true := by decide +kernel
theorem lm_a : isA (lk nsW "LIMITS") lmA = true := by decide +kernel
theorem mt_all : (List.range 7).all (fun i => decide (mtN.getD i "" = fnL.getD (66 + i) "") && decide (mtA.getD i 0 = adL.getD (66 + i) 0)) = true := by decide +kernel
theorem at_of {α : Type} {l : List α} {d : α} {j : Nat} {x : α} (e : l[j]? = some x) : j < l.length ∧ l.getD j d = x := by
  obtain ⟨h, _⟩ := List.getElem?_eq_some_iff.mp e
  exact ⟨h, by rw [List.getD_eq_getElem?_getD, e]; rfl⟩
section
variable {K : PySem.W.Frag} {mg : Str → Option Value} (G : Glob K mg) (S : SaysO K)
include G
theorem g_con {k : Nat} {x : Str} (e : conL[k]? = some x) : ∃ t, mg x = some (.int (tb.con k) t) := by
  obtain ⟨h, z⟩ := at_of (d := ("" : Str)) e
  have q := List.all_eq_true.mp con_all k (List.mem_range.mpr h)
  rw [z] at q
  exact G.int x _ (isI_ok q)
theorem g_fn {j : Nat} {x : Str} (hj : isMt j = false) (e : fnL[j]? = some x) : mg x = some (.ref (adL.getD j 0)) := by
  obtain ⟨h, z⟩ := at_of (d := ("" : Str)) e
  have q := List.all_eq_true.mp fn_all j (List.mem_range.mpr (by rw [fn_len] at h; exact h))
  rw [hj, Bool.false_or, z] at q
  exact G.adr x _ (isA_ok q)
theorem g_blt {x : Str} (e : x ∈ noBlt) : mg x = none := G.non x (isN_ok (List.all_eq_true.mp bl_all x (List.mem_cons_of_mem _ e)))
theorem g_exc : mg "Exception" = none := G.non _ (isN_ok (List.all_eq_true.mp bl_all "Exception" (List.mem_cons_self ..)))
include S
theorem g_ctup {k : Nat} {x : Str} (e : ctL[k]? = some x) : ∃ p, mg x = some (.ref p) ∧ ∀ H, SqT K H p (vI (tb.ctup k)) := by
  obtain ⟨h, z⟩ := at_of (d := ("" : Str)) e
  have q := List.all_eq_true.mp ct_all k (List.mem_range.mpr h)
  rw [z] at q
  obtain ⟨c1, _⟩ := He.ba S.b
  obtain ⟨l, e1, t⟩ := tupsA_ok c1 k (ctA.getD k 0) (get_of h)
  refine ⟨_, G.adr x _ (isA_ok q), fun H => ?_⟩
  have el : tb.ctup k = l := (at_of (d := []) e1).2
  rw [el]
  exact tupA_ok t H
theorem g_dict {k : Nat} {x : Str} (e : diL[k]? = some x) : ∃ p, mg x = some (.ref p) ∧ IntD K p (tb.dict k) := by
  obtain ⟨h, z⟩ := at_of (d := ("" : Str)) e
  have q := List.all_eq_true.mp di_all k (List.mem_range.mpr h)
  rw [z] at q
  obtain ⟨_, c⟩ := He.ba S.b
  obtain ⟨c2, _⟩ := He.ba c
  obtain ⟨l, e1, t⟩ := dicsB_ok c2 k (diA.getD k 0) (get_of h)
  refine ⟨_, G.adr x _ (isA_ok q), ?_⟩
  have el : tb.dict k = l := (at_of (d := []) e1).2
  rw [el]
  refine dicB_ok t ?_
  have hk : k < 2 := h
  match k, hk with
  | 0, _ => rfl
  | 1, _ => rfl
end
section
variable {K : PySem.W.Frag} (S : SaysO K)
include S
theorem s_cls : Cls K clA := clsB_ok (He.ba S.a).1
theorem s_meth {j : Nat} {x : Str} (hj : isMt j = true) (e : fnL[j]? = some x) : Meth K clA x (adL.getD j 0) := by
  obtain ⟨_, c⟩ := He.ba S.a
  obtain ⟨c, _⟩ := He.ba c
  obtain ⟨h1, h2⟩ := He.ba hj
  have h1 : 66 ≤ j := of_decide_eq_true h1
  have h2 : j ≤ 72 := of_decide_eq_true h2
  obtain ⟨i, rfl⟩ : ∃ i, j = 66 + i := ⟨j - 66, by omega⟩
  have hi : i < 7 := by omega
  have q := List.all_eq_true.mp mt_all i (List.mem_range.mpr hi)
  obtain ⟨q1, q2⟩ := He.ba q
  have q1 := of_decide_eq_true q1
  have q2 := of_decide_eq_true q2
  obtain ⟨_, z⟩ := at_of (d := ("" : Str)) e
  rw [z] at q1
  obtain ⟨f, e1, m⟩ := methsB_ok c i x (by rw [← q1]; exact get_of hi)
  rw [← q2, (at_of (d := 0) e1).2]
  exact m
theorem s_mk : Mk K clA miA := by
  obtain ⟨_, c⟩ := He.ba S.a
  obtain ⟨_, c⟩ := He.ba c
  exact mkB_ok (He.ba c).1
theorem s_na {f : Str} (h : f ∈ attrs) : NoAttr K clA f := by
  obtain ⟨_, c⟩ := He.ba S.a
  obtain ⟨_, c⟩ := He.ba c
  exact noB_ok (List.all_eq_true.mp (He.ba c).2 f h)
theorem s_fx : FxAll K fxA fiA := by
  obtain ⟨c1, c⟩ := He.ba S.c
  exact fxB2_ok c1 (He.ba c).1
theorem s_xf : XfC K fxA := by
  obtain ⟨_, c⟩ := He.ba S.c
  exact xfB_ok (He.ba (He.ba c).2).1
theorem s_noL {a : Addr} {o : Obj} {its : Array Value} {n : Nat} (h : K.lookup a = some o) (hc : o.cls = .type "list") (hd : o.data = .seq its n) : False := by
  obtain ⟨_, c⟩ := He.ba S.c
  have z := List.all_eq_true.mp (He.ba (He.ba c).2).2 a (S.n a o h)
  rw [h] at z
  obtain ⟨oc, od, dt, osl⟩ := o
  have hc : oc = .type "list" := hc
  have hd : dt = .seq its n := hd
  subst hc hd
  exact Bool.noConfusion (show false = true from z)
theorem s_lim : (∀ H, SqT K H lmA (rwA.map V.ref)) ∧ ∀ q : Int, 0 ≤ q → q ≤ 12 → ∃ r, rwA[q.toNat]? = some r ∧ ∀ H, SqT K H r (vI (limL q)) := by
  obtain ⟨_, c⟩ := He.ba S.b
  obtain ⟨_, c⟩ := He.ba c
  obtain ⟨c1, c2⟩ := He.ba c
  refine ⟨fun H => tupR_ok c1 H, fun q h1 h2 => ?_⟩
  obtain ⟨n, rfl⟩ := Int.eq_ofNat_of_zero_le h1
  have hn : n < 13 := by omega
  have e : rwA[n]? = some (rwA.getD n 0) := get_of hn
  refine ⟨_, e, fun H => ?_⟩
  obtain ⟨l, e1, t⟩ := tupsA_ok c2 n _ e
  have el : limL (n : Int) = l := by
    have z := (at_of (d := []) e1).2
    rw [← z]
    match n, hn with
    | 0, _ => rfl
    | 1, _ => rfl
    | 2, _ => rfl
    | 3, _ => rfl
    | 4, _ => rfl
    | 5, _ => rfl
    | 6, _ => rfl
    | 7, _ => rfl
    | 8, _ => rfl
    | 9, _ => rfl
    | 10, _ => rfl
    | 11, _ => rfl
    | 12, _ => rfl
  rw [el]
  exact tupA_ok t H
end
end FHG
end
section
set_option linter.all false
set_option Elab.async false
/-! how a code is worked out -/
namespace FH
open RvNum RvMach
theorem tc0 : tb.con 0 = 1 := rfl
theorem tc1 : tb.con 1 = 2 := rfl
theorem tc2 : tb.con 2 = 4 := rfl
theorem tc3 : tb.con 3 = 8 := rfl
theorem tc4 : tb.con 4 = 16 := rfl
theorem tc5 : tb.con 5 = 0 := rfl
theorem tc6 : tb.con 6 = 1 := rfl
theorem tc7 : tb.con 7 = 2 := rfl
theorem tc8 : tb.con 8 = 3 := rfl
theorem tc9 : tb.con 9 = 1 := rfl
theorem tc10 : tb.con 10 = 2 := rfl
theorem tc11 : tb.con 11 = 3 := rfl
theorem tc12 : tb.con 12 = 4 := rfl
theorem tc13 : tb.con 13 = 4096 := rfl
theorem tc14 : tb.con 14 = 0 := rfl
theorem tc15 : tb.con 15 = 1 := rfl
theorem tc16 : tb.con 16 = 2 := rfl
theorem tc17 : tb.con 17 = 5 := rfl
theorem tc18 : tb.con 18 = 7 := rfl
theorem tc19 : tb.con 19 = 1 := rfl
theorem tc20 : tb.con 20 = 2 := rfl
theorem tc21 : tb.con 21 = 3 := rfl
theorem tc22 : tb.con 22 = 0 := rfl
theorem tc23 : tb.con 23 = 115 := rfl
theorem tc24 : tb.con 24 = 0 := rfl
theorem tc25 : tb.con 25 = 1 := rfl
theorem tc26 : tb.con 26 = 2 := rfl
theorem tc27 : tb.con 27 = 3 := rfl
theorem tc28 : tb.con 28 = 6 := rfl
theorem tc29 : tb.con 29 = 7 := rfl
theorem tc30 : tb.con 30 = 8 := rfl
theorem tc31 : tb.con 31 = 9 := rfl
theorem tc32 : tb.con 32 = 10 := rfl
theorem tc33 : tb.con 33 = 11 := rfl
theorem tc34 : tb.con 34 = 12 := rfl
theorem tc35 : tb.con 35 = 64 := rfl
theorem tc36 : tb.con 36 = 65 := rfl
theorem tc37 : tb.con 37 = 66 := rfl
theorem tc38 : tb.con 38 = 67 := rfl
theorem tc39 : tb.con 39 = 0 := rfl
theorem tc40 : tb.con 40 = 1 := rfl
theorem tc41 : tb.con 41 = 2 := rfl
theorem tc42 : tb.con 42 = 3 := rfl
theorem tc43 : tb.con 43 = 4 := rfl
theorem tc44 : tb.con 44 = 5 := rfl
theorem tt0 : tb.ctup 0 = [32, 64, 16] := rfl
theorem tt1 : tb.ctup 1 = [8, 11, 5] := rfl
theorem tt2 : tb.ctup 2 = [23, 52, 10] := rfl
theorem tt3 : tb.ctup 3 = [18446744069414584320, 0, 18446744073709486080] := rfl
theorem tt4 : tb.ctup 4 = [6, 4, 2, 4, 4, 4, 0, 1, 1, 1, 2, 2, 2] := rfl
theorem td0 : tb.dict 0 = [(0, .int 2), (1, .int 1), (2, .int 0), (4, .int 4), (5, .int 3)] := rfl
theorem td1 : tb.dict 1 = [(1, .tup [2, 2]), (2, .tup [0, 4]), (3, .tup [1, 8])] := rfl
theorem getS_0 {v : PV} {s : Env} : getS (some v :: s) 0 = some v := rfl
theorem getS_n {s : Env} : getS (none :: s) 0 = none := rfl
theorem getS_s {o : Option PV} {s : Env} {i : Nat} : getS (o :: s) (i + 1) = getS s i := by
  unfold getS
  rw [List.getElem?_cons_succ]
theorem cat3 {f : Int} (h : okF f) : f = 0 ∨ f = 1 ∨ f = 2 := by
  obtain ⟨h1, h2⟩ := h
  omega
theorem outQ_ok {v : PV} {m : M} {F : FQ} {Q : PQ} : outQ (.ok v, m) F Q = Q v m := rfl
theorem outQ_flt {c w : Int} {m : M} {F : FQ} {Q : PQ} : outQ (.flt c w, m) F Q = F c w m := rfl
theorem ite_dec {p : Prop} [d : Decidable p] {A B : Prop} : (if decide p = true then A else B) = if p then A else B := by
  cases d with
  | isTrue h => simp [h]
  | isFalse h => simp [h]
theorem ite_nb {b : Bool} {A B : Prop} : (if (!b) = true then A else B) = if b = true then B else A := by
  cases b <;> rfl
theorem all_eq {α : Type} {x : α} {P : α → Prop} : P x ↔ ∀ w, w = x → P w := ⟨fun h w e => e ▸ h, fun h => h x rfl⟩
theorem ev_max2 {F : FQ} {a b : Ex} {s : Env} {m : M} {Q : PQ} : ev tb F (.max2 a b) s m Q = ev tb F a s m fun x m1 => ev tb F b s m1 fun y m2 => onInt x fun i => onInt y fun j => ∀ w : Int, w = max i j → Q (.int w) m2 := by
  have e : ∀ i j : Int, (if i < j then j else i) = max i j := fun i j => by
    split <;> omega
  rw [ev]
  simp only [e]
  congr 1
  funext x m1
  congr 1
  funext y m2
  congr 1
  funext i
  congr 1
  funext j
  exact propext (all_eq (P := fun w => Q (.int w) m2))
theorem ev_min2 {F : FQ} {a b : Ex} {s : Env} {m : M} {Q : PQ} : ev tb F (.min2 a b) s m Q = ev tb F a s m fun x m1 => ev tb F b s m1 fun y m2 => onInt x fun i => onInt y fun j => ∀ w : Int, w = min i j → Q (.int w) m2 := by
  have e : ∀ i j : Int, (if j < i then j else i) = min i j := fun i j => by
    split <;> omega
  rw [ev]
  simp only [e]
  congr 1
  funext x m1
  congr 1
  funext y m2
  congr 1
  funext i
  congr 1
  funext j
  exact propext (all_eq (P := fun w => Q (.int w) m2))
theorem ev_abs {F : FQ} {a : Ex} {s : Env} {m : M} {Q : PQ} : ev tb F (.abs a) s m Q = ev tb F a s m fun x m1 => onInt x fun i => ∀ w : Int, w = (i.natAbs : Int) → Q (.int w) m1 := by
  have e : ∀ i : Int, (if i < 0 then -i else i) = (i.natAbs : Int) := fun i => by
    split <;> omega
  rw [ev]
  simp only [e]
  congr 1
  funext x m1
  congr 1
  funext i
  exact propext (all_eq (P := fun w => Q (.int w) m1))
theorem n31 {F : FQ} {Q : PQ} {μ : M} {m s n d : Int} : callQ (tb.fn 31) F [.int m, .int s, .int n, .int d] μ Q ↔ (okM0 m ∧ sg s ∧ (0 ≤ n ∧ ibits n ≤ 10000) ∧ (-10000 ≤ d ∧ d ≤ 10000)) ∧ ∀ w : Int, w = ((RvNum.rounded m.toNat (decide (s = 1)) (ratioAt n.toNat 1 (-d) 0) : Nat) : Int) → Q (.int w) μ := by
  rw [c31]
  exact and_congr Iff.rfl (all_eq (P := fun w => Q (.int w) μ))
end FH
end
section
set_option linter.all false
set_option Elab.async false
set_option maxRecDepth 10000
/-! the three formats -/
namespace FH
open RvNum RvMach
theorem fm_0 : fm 0 = SINGLE := rfl
theorem fm_1 : fm 1 = DOUBLE := rfl
theorem fm_2 : fm 2 = HALF := rfl
theorem fS1 : SINGLE.width = 32 := rfl
theorem fD1 : DOUBLE.width = 64 := rfl
theorem fH1 : HALF.width = 16 := rfl
theorem fS2 : SINGLE.signBit = 2147483648 := by decide
theorem fD2 : DOUBLE.signBit = 9223372036854775808 := by decide
theorem fH2 : HALF.signBit = 32768 := by decide
theorem fS3 : SINGLE.infinity = 2139095040 := by decide
theorem fD3 : DOUBLE.infinity = 9218868437227405312 := by decide
theorem fH3 : HALF.infinity = 31744 := by decide
theorem fS4 : SINGLE.canonical = 2143289344 := by decide
theorem fD4 : DOUBLE.canonical = 9221120237041090560 := by decide
theorem fH4 : HALF.canonical = 32256 := by decide
theorem fS5 : SINGLE.fbits = 23 := rfl
theorem fD5 : DOUBLE.fbits = 52 := rfl
theorem fH5 : HALF.fbits = 10 := rfl
theorem fS6 : SINGLE.ebits = 8 := rfl
theorem fD6 : DOUBLE.ebits = 11 := rfl
theorem fH6 : HALF.ebits = 5 := rfl
theorem fS7 : SINGLE.bias = 127 := by decide
theorem fD7 : DOUBLE.bias = 1023 := by decide
theorem fH7 : HALF.bias = 15 := by decide
theorem fS8 : SINGLE.unit = -149 := by decide
theorem fD8 : DOUBLE.unit = -1074 := by decide
theorem fH8 : HALF.unit = -24 := by decide
theorem negS (n : Nat) : negOf SINGLE n = (n / 2147483648 % 2 == 1) := rfl
theorem negD (n : Nat) : negOf DOUBLE n = (n / 9223372036854775808 % 2 == 1) := rfl
theorem negH (n : Nat) : negOf HALF n = (n / 32768 % 2 == 1) := rfl
theorem expS (n : Nat) : expoOf SINGLE n = n / 8388608 % 256 := rfl
theorem expD (n : Nat) : expoOf DOUBLE n = n / 4503599627370496 % 2048 := rfl
theorem expH (n : Nat) : expoOf HALF n = n / 1024 % 32 := rfl
theorem fraS (n : Nat) : fracOf SINGLE n = n % 8388608 := rfl
theorem fraD (n : Nat) : fracOf DOUBLE n = n % 4503599627370496 := rfl
theorem fraH (n : Nat) : fracOf HALF n = n % 1024 := rfl
theorem numS (n : Nat) : num SINGLE n = if n / 8388608 % 256 = 255 then (if n % 8388608 = 0 then .inf (n / 2147483648 % 2 == 1) else .nan (decide (n % 8388608 < 4194304))) else if n / 8388608 % 256 = 0 then .fin (n / 2147483648 % 2 == 1) (n % 8388608) (-149) else .fin (n / 2147483648 % 2 == 1) (8388608 + n % 8388608) (-149 + (n / 8388608 % 256 : Nat) - 1) := rfl
theorem numD (n : Nat) : num DOUBLE n = if n / 4503599627370496 % 2048 = 2047 then (if n % 4503599627370496 = 0 then .inf (n / 9223372036854775808 % 2 == 1) else .nan (decide (n % 4503599627370496 < 2251799813685248))) else if n / 4503599627370496 % 2048 = 0 then .fin (n / 9223372036854775808 % 2 == 1) (n % 4503599627370496) (-1074) else .fin (n / 9223372036854775808 % 2 == 1) (4503599627370496 + n % 4503599627370496) (-1074 + (n / 4503599627370496 % 2048 : Nat) - 1) := rfl
theorem numH (n : Nat) : num HALF n = if n / 1024 % 32 = 31 then (if n % 1024 = 0 then .inf (n / 32768 % 2 == 1) else .nan (decide (n % 1024 < 512))) else if n / 1024 % 32 = 0 then .fin (n / 32768 % 2 == 1) (n % 1024) (-24) else .fin (n / 32768 % 2 == 1) (1024 + n % 1024) (-24 + (n / 1024 % 32 : Nat) - 1) := rfl
theorem ct3_0 {x y z : Int} : [x, y, z].getD (0 : Int).toNat 0 = x := rfl
theorem ct3_1 {x y z : Int} : [x, y, z].getD (1 : Int).toNat 0 = y := rfl
theorem ct3_2 {x y z : Int} : [x, y, z].getD (2 : Int).toNat 0 = z := rfl
/-! the tuples by the format -/
theorem ctW {f : Int} (h : okF f) : [(32 : Int), 64, 16].getD f.toNat 0 = ((fm f).width : Int) := by
  rcases cat3 h with rfl | rfl | rfl <;> rfl
theorem ctE {f : Int} (h : okF f) : [(8 : Int), 11, 5].getD f.toNat 0 = ((fm f).ebits : Int) := by
  rcases cat3 h with rfl | rfl | rfl <;> rfl
theorem ctF {f : Int} (h : okF f) : [(23 : Int), 52, 10].getD f.toNat 0 = ((fm f).fbits : Int) := by
  rcases cat3 h with rfl | rfl | rfl <;> rfl
/-- of the three formats -/
structure IsF (F : Fmt) : Prop where
  e1 : 5 ≤ F.ebits
  e2 : F.ebits ≤ 11
  f1 : 10 ≤ F.fbits
  f2 : F.fbits ≤ 52
  wd : F.width = 1 + F.ebits + F.fbits
  sb : F.signBit = 2 ^ (F.ebits + F.fbits)
  un : F.unit = 1 - F.bias - F.fbits
  b1 : 15 ≤ F.bias
  b2 : F.bias ≤ 1023
  bb : F.bias = 2 ^ (F.ebits - 1) - 1
theorem isF {f : Int} (h : okF f) : IsF (fm f) := by
  rcases cat3 h with rfl | rfl | rfl <;> exact ⟨by decide, by decide, by decide, by decide, by decide, by decide, by decide, by decide, by decide, by decide⟩
theorem isF3 {f : Int} (h : okF f) : fm f = SINGLE ∨ fm f = DOUBLE ∨ fm f = HALF := by
  rcases cat3 h with rfl | rfl | rfl
  · exact .inl rfl
  · exact .inr (.inl rfl)
  · exact .inr (.inr rfl)
theorem okF_lt {f : Int} (h : okF f) : 0 ≤ f ∧ f < ((3 : Nat) : Int) := by
  obtain ⟨h1, h2⟩ := h
  omega
/-! ints -/
theorem land_mod (n k : Nat) : n &&& (2 ^ k - 1) = n % 2 ^ k := Nat.and_two_pow_sub_one_eq_mod n k
theorem iAnd_nn (x y : Nat) : iAnd (x : Int) (y : Int) = ((x &&& y : Nat) : Int) := by
  unfold iAnd
  rw [decide_eq_true (Int.natCast_nonneg x), decide_eq_true (Int.natCast_nonneg y)]
  simp only [Int.toNat_natCast]
theorem iAnd_mask (n k : Nat) {m : Int} (h : m = ((2 ^ k - 1 : Nat) : Int)) : iAnd (n : Int) m = ((n % 2 ^ k : Nat) : Int) := by
  rw [h, iAnd_nn, land_mod]
theorem ibits_0 : ibits 0 = 0 := rfl
theorem ibits_nat (n : Nat) : ibits (n : Int) = if n = 0 then 0 else n.log2 + 1 := by
  unfold ibits
  by_cases h : n = 0
  · subst h; rfl
  · rw [if_neg h]
    have : ((n : Int) == 0) = false := by
      rw [beq_eq_false_iff_ne]
      omega
    rw [this]
    rfl
theorem ibits_le {n k : Nat} (h : n < 2 ^ k) : ibits (n : Int) ≤ k := by
  rw [ibits_nat]
  by_cases h0 : n = 0
  · rw [if_pos h0]; exact Nat.zero_le _
  · rw [if_neg h0]
    exact (Nat.log2_lt h0).mpr h
theorem ibits_lt {n k : Nat} (h : ibits (n : Int) ≤ k) : n < 2 ^ k := by
  rw [ibits_nat] at h
  by_cases h0 : n = 0
  · rw [h0]; exact Nat.two_pow_pos k
  · rw [if_neg h0] at h
    exact (Nat.log2_lt h0).mp h
end FH
end
section
set_option linter.all false
set_option Elab.async false
set_option maxRecDepth 10000
namespace FH
open RvNum RvMach
local macro_rules | `(tactic| array_get_dec) => `(tactic| simp only [senv, List.map_cons, List.map_nil, List.length_cons, List.length_nil, Nat.reduceAdd, Nat.reduceSub, List.replicate_zero, List.replicate_succ, List.cons_append, List.nil_append, List.append_nil, List.set_cons_zero, List.set_cons_succ,
  exs, ex, ev, evs, evAnd, evOr, op2, cp2, onInt, onBl, onSeq, onLst, onTup, onMach, onInts, onSome, intsOf, Option.map_some, Option.map_none, getS_0, getS_n, getS_s, setAll, atQ, fromQ, decide_eq_true_eq, Bool.not_eq_true', decide_eq_false_iff_not, Bool.true_eq_false, Bool.false_eq_true, if_true, if_false, ite_true, ite_false, outQ_ok, outQ_flt, and_true, true_and, PV.int.injEq, PV.bl.injEq, PV.tup.injEq, PV.lst.injEq, c0, c1, c2, c3, c4, c5, c6, c7, c8, c9, c10, c11, c12, c13, c14, c15, c16, c17, c18, c19, c20, c21, c22, c23, c24, c25, c26, c27, c28, c29, c30, c31, c32, c33, c34, c35, c36, c37, c38, c39, c40, c41, c42, c43, c44, c45, c46, c47, c48, c49, c50, c51, c52, c53, c54, c55, c56, c57, c58, c59, c60, c61, c62, c63, c64, c65, c67, c68, c69, c70, c71, c72, c73, c74, c75, c76, c77, c78, c79, c80, c81, c82, c83, c84, c85, c86, c87, c88, c89, c90, c91, c92, c93, c94, c95, c96, c97, c98, c99, c100, c101, c102, c103, c104, c105, c106, c107, c108, c109, c110, c111, c112, c113, c114, c115, c116, c117, c118, c119, c120, c121, c122, c123, c124, c125, c126, c127, c128, c129, c130, c131, c132, c133, c134, c135, tc0, tc1, tc2, tc3, tc4, tc5, tc6, tc7, tc8, tc9, tc10, tc11, tc12, tc13, tc14, tc15, tc16, tc17, tc18, tc19, tc20, tc21, tc22, tc23, tc24, tc25, tc26, tc27, tc28, tc29, tc30, tc31, tc32, tc33, tc34, tc35, tc36, tc37, tc38, tc39, tc40, tc41, tc42, tc43, tc44, tt0, tt1, tt2, tt3, tt4, td0, td1])
theorem g0 : Good tb (tb.fn 0) 1 1 k0 := by
  refine gd0 rfl fun F m f h => ?_
  unfold k0
  array_get_dec
  exact ⟨okF_lt h, ctF h⟩
theorem g1 : Good tb (tb.fn 1) 1 1 k1 := by
  refine gd1 rfl fun F m f h => ?_
  unfold k1
  array_get_dec
  rcases cat3 h with rfl | rfl | rfl <;> decide
theorem g2 : Good tb (tb.fn 2) 1 1 k2 := by
  refine gd2 rfl fun F m f h => ?_
  unfold k2
  array_get_dec
  exact h
theorem g3 : Good tb (tb.fn 3) 2 2 k3 := by
  refine gd3 rfl fun F m f a h => ?_
  unfold k3
  array_get_dec
  obtain ⟨h, h0⟩ := h
  obtain ⟨a, rfl⟩ := Int.eq_ofNat_of_zero_le h0
  have key : ∀ n : Nat, iAnd ((a : Int) / 2 ^ n) 1 = ((a / 2 ^ n % 2 : Nat) : Int) := fun n => by
    have e : ((a : Int) / 2 ^ n) = ((a / 2 ^ n : Nat) : Int) := by simp
    rw [e]
    exact iAnd_mask (a / 2 ^ n) 1 (m := 1) rfl
  refine ⟨okF_lt h, ?_⟩
  rw [key]
  rcases cat3 h with rfl | rfl | rfl
  · simp only [ct3_0, fm_0, negS, Int.toNat_natCast, b2i, beq_iff_eq]
    refine ⟨by decide, ?_⟩
    show (((a / 2147483648 % 2 : Nat)) : Int) = _
    split <;> omega
  · simp only [ct3_1, fm_1, negD, Int.toNat_natCast, b2i, beq_iff_eq]
    refine ⟨by decide, ?_⟩
    show (((a / 9223372036854775808 % 2 : Nat)) : Int) = _
    split <;> omega
  · simp only [ct3_2, fm_2, negH, Int.toNat_natCast, b2i, beq_iff_eq]
    refine ⟨by decide, ?_⟩
    show (((a / 32768 % 2 : Nat)) : Int) = _
    split <;> omega
theorem g4 : Good tb (tb.fn 4) 2 2 k4 := by
  refine gd4 rfl fun F m f a h => ?_
  unfold k4
  array_get_dec
  obtain ⟨h, h0⟩ := h
  obtain ⟨a, rfl⟩ := Int.eq_ofNat_of_zero_le h0
  refine ⟨okF_lt h, ?_⟩
  rcases cat3 h with rfl | rfl | rfl
  · exact ⟨by decide, iAnd_mask a 32 (by decide)⟩
  · exact ⟨by decide, iAnd_mask a 64 (by decide)⟩
  · exact ⟨by decide, iAnd_mask a 16 (by decide)⟩
theorem g5 : Good tb (tb.fn 5) 2 2 k5 := by
  refine gd5 rfl fun F m f a h => ?_
  unfold k5
  array_get_dec
  obtain ⟨h, h0⟩ := h
  obtain ⟨a, rfl⟩ := Int.eq_ofNat_of_zero_le h0
  refine ⟨okF_lt h, ?_⟩
  rcases cat3 h with rfl | rfl | rfl
  · exact ⟨by decide, iAnd_mask a 31 (by decide)⟩
  · exact ⟨by decide, iAnd_mask a 63 (by decide)⟩
  · exact ⟨by decide, iAnd_mask a 15 (by decide)⟩
theorem g6 : Good tb (tb.fn 6) 3 3 k6 := by
  refine gd6 rfl fun F m f s n h => ?_
  unfold k6
  array_get_dec
  obtain ⟨h, hs, h0⟩ := h
  obtain ⟨n, rfl⟩ := Int.eq_ofNat_of_zero_le h0
  refine ⟨okF_lt h, ?_⟩
  rcases hs with rfl | rfl <;> rcases cat3 h with rfl | rfl | rfl <;> simp only [ct3_0, ct3_1, ct3_2, fm_0, fm_1, fm_2, signed, fS2, fD2, fH2, Int.toNat_natCast] <;> refine ⟨by decide, ?_⟩ <;> simp <;> rfl
theorem sg_b (b : Bool) : sg (b2i b) ∧ sg (1 - b2i b) := by
  cases b
  · exact ⟨.inl rfl, .inr rfl⟩
  · exact ⟨.inr rfl, .inl rfl⟩
theorem b2i_1 (b : Bool) : decide (b2i b = 1) = b ∧ decide (1 - b2i b = 1) = !b := by
  cases b <;> exact ⟨rfl, rfl⟩
theorem g7 : Good tb (tb.fn 7) 2 2 k7 := by
  refine gd7 rfl fun F m f a h => ?_
  unfold k7
  array_get_dec
  refine ⟨h, h, ⟨h.1, (sg_b _).2, Int.natCast_nonneg _⟩, ?_⟩
  rw [(b2i_1 _).2, Int.toNat_natCast]
theorem g8 : Good tb (tb.fn 8) 1 1 k8 := by
  refine gd8 rfl fun F m f h => ?_
  unfold k8
  array_get_dec
  rcases cat3 h with rfl | rfl | rfl <;> decide
theorem g9 : Good tb (tb.fn 9) 2 2 k9 := by
  refine gd9 rfl fun F m f a h => ?_
  unfold k9
  array_get_dec
  refine ⟨h, h.1, ?_⟩
  rcases cat3 h.1 with rfl | rfl | rfl
  · simp only [fm_0, numS, fS2, fS3]
    split <;> try split
    all_goals simp only [isNan, decide_eq_true_eq, decide_eq_false_iff_not]
    all_goals omega
  · simp only [fm_1, numD, fD2, fD3]
    split <;> try split
    all_goals simp only [isNan, decide_eq_true_eq, decide_eq_false_iff_not]
    all_goals omega
  · simp only [fm_2, numH, fH2, fH3]
    split <;> try split
    all_goals simp only [isNan, decide_eq_true_eq, decide_eq_false_iff_not]
    all_goals omega
theorem ite_bool {c : Prop} [Decidable c] {A B : Prop} : (if decide c = true then A else B) = if c then A else B := by
  by_cases h : c <;> simp [h]
theorem g10 : Good tb (tb.fn 10) 2 2 k10 := by
  refine gd10 rfl fun F m f a h => ?_
  unfold k10
  array_get_dec
  refine ⟨h, ?_⟩
  obtain ⟨h, h0⟩ := h
  obtain ⟨a, rfl⟩ := Int.eq_ofNat_of_zero_le h0
  have key : ∀ n : Nat, iAnd ((a : Int) / 2 ^ n) 1 = ((a / 2 ^ n % 2 : Nat) : Int) := fun n => by
    have e : ((a : Int) / 2 ^ n) = ((a / 2 ^ n : Nat) : Int) := by simp
    rw [e]
    exact iAnd_mask (a / 2 ^ n) 1 (m := 1) rfl
  simp only [key, Int.toNat_natCast]
  rcases cat3 h with rfl | rfl | rfl
  · simp only [fm_0, numS, ct3_0]
    split <;> (try split) <;> simp only [isNan, signals, Bool.false_eq_true, if_false, if_true]
    refine ⟨by decide, by decide, ?_⟩
    show decide (((a / 4194304 % 2 : Nat) : Int) = 0) = _
    simp only [decide_eq_decide]
    omega
  · simp only [fm_1, numD, ct3_1]
    split <;> (try split) <;> simp only [isNan, signals, Bool.false_eq_true, if_false, if_true]
    refine ⟨by decide, by decide, ?_⟩
    show decide (((a / 2251799813685248 % 2 : Nat) : Int) = 0) = _
    simp only [decide_eq_decide]
    omega
  · simp only [fm_2, numH, ct3_2]
    split <;> (try split) <;> simp only [isNan, signals, Bool.false_eq_true, if_false, if_true]
    refine ⟨by decide, by decide, ?_⟩
    show decide (((a / 512 % 2 : Nat) : Int) = 0) = _
    simp only [decide_eq_decide]
    omega
theorem g11 : Good tb (tb.fn 11) 2 2 k11 := by
  refine gd11 rfl fun F m f a h => ?_
  unfold k11
  array_get_dec
  refine ⟨h, h.1, ?_⟩
  rcases cat3 h.1 with rfl | rfl | rfl
  · simp only [fm_0, numS, fS2, fS3]
    split <;> try split
    all_goals simp only [isInf, decide_eq_true_eq, decide_eq_false_iff_not]
    all_goals omega
  · simp only [fm_1, numD, fD2, fD3]
    split <;> try split
    all_goals simp only [isInf, decide_eq_true_eq, decide_eq_false_iff_not]
    all_goals omega
  · simp only [fm_2, numH, fH2, fH3]
    split <;> try split
    all_goals simp only [isInf, decide_eq_true_eq, decide_eq_false_iff_not]
    all_goals omega
theorem dec_beq {c : Prop} [Decidable c] {x y : Nat} (h : c ↔ x = y) : decide c = (x == y) := by
  by_cases q : c
  · rw [decide_eq_true q, beq_iff_eq.mpr (h.mp q)]
  · rw [decide_eq_false q]
    exact (beq_eq_false_iff_ne.mpr fun z => q (h.mpr z)).symm
theorem g12 : Good tb (tb.fn 12) 2 2 k12 := by
  refine gd12 rfl fun F m f a h => ?_
  unfold k12
  array_get_dec
  refine ⟨h, ?_⟩
  rcases cat3 h.1 with rfl | rfl | rfl
  · simp only [fm_0, numS, fS2, fS3]
    split <;> try split
    all_goals simp only [isZero, decide_eq_true_eq, decide_eq_false_iff_not]
    · omega
    · omega
    · exact dec_beq (by omega)
    · rw [show ((8388608 + a.toNat % 8388608) == 0) = false from beq_eq_false_iff_ne.mpr (by omega)]
      rw [decide_eq_false_iff_not]
      omega
  · simp only [fm_1, numD, fD2, fD3]
    split <;> try split
    all_goals simp only [isZero, decide_eq_true_eq, decide_eq_false_iff_not]
    · omega
    · omega
    · exact dec_beq (by omega)
    · rw [show ((4503599627370496 + a.toNat % 4503599627370496) == 0) = false from beq_eq_false_iff_ne.mpr (by omega)]
      rw [decide_eq_false_iff_not]
      omega
  · simp only [fm_2, numH, fH2, fH3]
    split <;> try split
    all_goals simp only [isZero, decide_eq_true_eq, decide_eq_false_iff_not]
    · omega
    · omega
    · exact dec_beq (by omega)
    · rw [show ((1024 + a.toNat % 1024) == 0) = false from beq_eq_false_iff_ne.mpr (by omega)]
      rw [decide_eq_false_iff_not]
      omega
theorem g13 : Good tb (tb.fn 13) 2 2 k13 := by
  refine gd13 rfl fun F m f a h => ?_
  unfold k13
  array_get_dec
  refine ⟨h, ?_⟩
  have e : ∀ F : Fmt, (0 < ((a.toNat % F.signBit : Nat) : Int)) = (0 < a.toNat % F.signBit) := fun F => propext (by omega)
  split
  · rename_i c
    rw [e] at c
    refine ⟨okF_lt h.1, ?_⟩
    rcases cat3 h.1 with rfl | rfl | rfl
    · refine ⟨by decide, ?_⟩
      simp only [decide_eq_decide]
      show ((a.toNat % (fm 0).signBit : Nat) : Int) < 8388608 ↔ _ ∧ _ < 8388608
      omega
    · refine ⟨by decide, ?_⟩
      simp only [decide_eq_decide]
      show ((a.toNat % (fm 1).signBit : Nat) : Int) < 4503599627370496 ↔ _ ∧ _ < 4503599627370496
      omega
    · refine ⟨by decide, ?_⟩
      simp only [decide_eq_decide]
      show ((a.toNat % (fm 2).signBit : Nat) : Int) < 1024 ↔ _ ∧ _ < 1024
      omega
  · rename_i c
    rw [e] at c
    symm
    rw [decide_eq_false_iff_not]
    exact fun z => c z.1
theorem g14 : Good tb (tb.fn 14) 2 2 k14 := by
  refine gd14 rfl fun F m f s h => ?_
  unfold k14
  array_get_dec
  exact ⟨⟨h.1, h.2, Int.le_refl _⟩, rfl⟩
theorem g15 : Good tb (tb.fn 15) 2 2 k15 := by
  refine gd15 rfl fun F m f s h => ?_
  unfold k15
  array_get_dec
  exact ⟨h.1, ⟨h.1, h.2, Int.natCast_nonneg _⟩, by rw [Int.toNat_natCast]⟩
theorem g16 : Good tb (tb.fn 16) 2 2 k16 := by
  refine gd16 rfl fun F m f s h => ?_
  unfold k16
  array_get_dec
  have e : ((fm f).infinity : Int) - 1 = (((fm f).infinity - 1 : Nat) : Int) := by
    rcases cat3 h.1 with rfl | rfl | rfl <;> decide
  rw [e]
  exact ⟨h.1, ⟨h.1, h.2, Int.natCast_nonneg _⟩, by rw [Int.toNat_natCast]⟩
theorem g17 : Good tb (tb.fn 17) 1 1 k17 := by
  refine gd17 rfl fun F m f h => ?_
  unfold k17
  array_get_dec
  refine ⟨h, okF_lt h, ?_⟩
  rcases cat3 h with rfl | rfl | rfl <;> decide

end FH
end
section
set_option linter.all false
set_option Elab.async false
/-! bits in the order of the numbers -/
namespace FH
open RvNum RvMach
def valP (p s : Nat) : Nat := if s / 2 ^ p = 0 then s % 2 ^ p else (2 ^ p + s % 2 ^ p) * 2 ^ (s / 2 ^ p - 1)
theorem valP_lt {p s : Nat} : valP p s < 2 ^ p * 2 ^ (s / 2 ^ p) := by
  have h : s % 2 ^ p < 2 ^ p := Nat.mod_lt _ (Nat.two_pow_pos p)
  unfold valP
  split
  · rename_i e
    rw [e]
    simpa using h
  · rename_i e
    obtain ⟨k, hk⟩ := Nat.exists_eq_succ_of_ne_zero e
    rw [hk, Nat.succ_eq_add_one, Nat.add_sub_cancel, Nat.pow_succ, ← Nat.mul_assoc, Nat.mul_right_comm]
    exact Nat.mul_lt_mul_of_pos_right (by omega) (Nat.two_pow_pos k)
theorem valP_ge {p s : Nat} (h : s / 2 ^ p ≠ 0) : 2 ^ p * 2 ^ (s / 2 ^ p - 1) ≤ valP p s := by
  unfold valP
  rw [if_neg h]
  exact Nat.mul_le_mul_right _ (Nat.le_add_right _ _)
theorem valP_mono {p s t : Nat} (h : s < t) : valP p s < valP p t := by
  have hd : s / 2 ^ p ≤ t / 2 ^ p := Nat.div_le_div_right (Nat.le_of_lt h)
  rcases Nat.lt_or_eq_of_le hd with e | e
  · refine Nat.lt_of_lt_of_le valP_lt (Nat.le_trans (Nat.mul_le_mul_left _ (Nat.pow_le_pow_right (by decide) (Nat.le_sub_one_of_lt e))) (valP_ge (Nat.ne_of_gt (Nat.lt_of_le_of_lt (Nat.zero_le _) e))))
  · have hs := Nat.div_add_mod s (2 ^ p)
    have ht := Nat.div_add_mod t (2 ^ p)
    rw [e] at hs
    have hr : s % 2 ^ p < t % 2 ^ p := by omega
    unfold valP
    rw [e]
    split
    · exact hr
    · exact Nat.mul_lt_mul_of_pos_right (by omega) (Nat.two_pow_pos _)
theorem valP_lt_iff {p s t : Nat} : valP p s < valP p t ↔ s < t := by
  constructor
  · intro h
    rcases Nat.lt_trichotomy s t with q | q | q
    · exact q
    · rw [q] at h
      exact absurd h (Nat.lt_irrefl _)
    · exact absurd (Nat.lt_trans h (valP_mono q)) (Nat.lt_irrefl _)
  · exact valP_mono
theorem valP_eq_iff {p s t : Nat} : valP p s = valP p t ↔ s = t := by
  constructor
  · intro h
    rcases Nat.lt_trichotomy s t with q | q | q
    · have := valP_mono (p := p) q
      omega
    · exact q
    · have := valP_mono (p := p) q
      omega
  · intro h
    rw [h]
theorem al_lt {p q i j : Nat} : p * 2 ^ (i - min i j) < q * 2 ^ (j - min i j) ↔ p * 2 ^ i < q * 2 ^ j := by
  have e1 : 2 ^ i = 2 ^ (i - min i j) * 2 ^ min i j := by rw [← Nat.pow_add]; congr 1; omega
  have e2 : 2 ^ j = 2 ^ (j - min i j) * 2 ^ min i j := by rw [← Nat.pow_add]; congr 1; omega
  have k : p * 2 ^ i < q * 2 ^ j ↔ p * 2 ^ (i - min i j) * 2 ^ min i j < q * 2 ^ (j - min i j) * 2 ^ min i j := by
    rw [Nat.mul_assoc p, Nat.mul_assoc q, ← e1, ← e2]
  rw [k]
  exact (Nat.mul_lt_mul_right (Nat.two_pow_pos _)).symm
theorem al_eq {p q i j : Nat} : p * 2 ^ (i - min i j) = q * 2 ^ (j - min i j) ↔ p * 2 ^ i = q * 2 ^ j := by
  have h1 := al_lt (p := p) (q := q) (i := i) (j := j)
  have h2 := al_lt (p := q) (q := p) (i := j) (j := i)
  rw [Nat.min_comm j i] at h2
  omega
theorem whole_at (s : Bool) (a : Nat) (u : Int) (i j : Nat) : whole s a (u + i) (min (u + i) (u + j)) = if s = true then -((a * 2 ^ (i - min i j) : Nat) : Int) else ((a * 2 ^ (i - min i j) : Nat) : Int) := by
  unfold whole
  have e : (u + (i : Int) - min (u + (i : Int)) (u + (j : Int))).toNat = i - min i j := by omega
  rw [e]
theorem whole_at2 (s : Bool) (a : Nat) (u : Int) (i j : Nat) : whole s a (u + j) (min (u + i) (u + j)) = if s = true then -((a * 2 ^ (j - min i j) : Nat) : Int) else ((a * 2 ^ (j - min i j) : Nat) : Int) := by
  unfold whole
  have e : (u + (j : Int) - min (u + (i : Int)) (u + (j : Int))).toNat = j - min i j := by omega
  rw [e]
/-- what a number's bits are -/
structure NumC (F : Fmt) (a : Nat) : Prop where
  nan : F.infinity < a % F.signBit → ∃ s, num F a = .nan s
  inf : a % F.signBit = F.infinity → num F a = .inf (negOf F a)
  fin : a % F.signBit < F.infinity → ∃ m k : Nat, num F a = .fin (negOf F a) m (F.unit + k) ∧ m * 2 ^ k = valP F.fbits (a % F.signBit) ∧ m < 2 ^ (F.fbits + 1)
theorem numC_S (a : Nat) : NumC SINGLE a := by
  refine ⟨fun h => ?_, fun h => ?_, fun h => ?_⟩
  · rw [fS2, fS3] at h
    rw [numS, if_pos (by omega), if_neg (by omega)]
    exact ⟨_, rfl⟩
  · rw [fS2, fS3] at h
    rw [numS, negS, if_pos (by omega), if_pos (by omega)]
  · rw [fS2, fS3] at h
    rw [numS, negS, fS8, fS2, fS5, if_neg (by omega)]
    unfold valP
    by_cases e : a / 8388608 % 256 = 0
    · rw [if_pos e]
      refine ⟨_, 0, rfl, ?_, by show _ < 16777216; omega⟩
      show _ = if a % 2147483648 / 8388608 = 0 then a % 2147483648 % 8388608 else _
      rw [if_pos (by omega)]
      omega
    · rw [if_neg e]
      refine ⟨8388608 + a % 8388608, a / 8388608 % 256 - 1, ?_, ?_, by show _ < 16777216; omega⟩
      · congr 1
        omega
      · show _ = if a % 2147483648 / 8388608 = 0 then a % 2147483648 % 8388608 else (8388608 + a % 2147483648 % 8388608) * 2 ^ (a % 2147483648 / 8388608 - 1)
        rw [if_neg (by omega), show a % 2147483648 % 8388608 = a % 8388608 by omega, show a % 2147483648 / 8388608 = a / 8388608 % 256 by omega]
theorem numC_D (a : Nat) : NumC DOUBLE a := by
  refine ⟨fun h => ?_, fun h => ?_, fun h => ?_⟩
  · rw [fD2, fD3] at h
    rw [numD, if_pos (by omega), if_neg (by omega)]
    exact ⟨_, rfl⟩
  · rw [fD2, fD3] at h
    rw [numD, negD, if_pos (by omega), if_pos (by omega)]
  · rw [fD2, fD3] at h
    rw [numD, negD, fD8, fD2, fD5, if_neg (by omega)]
    unfold valP
    by_cases e : a / 4503599627370496 % 2048 = 0
    · rw [if_pos e]
      refine ⟨_, 0, rfl, ?_, by show _ < 9007199254740992; omega⟩
      show _ = if a % 9223372036854775808 / 4503599627370496 = 0 then a % 9223372036854775808 % 4503599627370496 else _
      rw [if_pos (by omega)]
      omega
    · rw [if_neg e]
      refine ⟨4503599627370496 + a % 4503599627370496, a / 4503599627370496 % 2048 - 1, ?_, ?_, by show _ < 9007199254740992; omega⟩
      · congr 1
        omega
      · show _ = if a % 9223372036854775808 / 4503599627370496 = 0 then a % 9223372036854775808 % 4503599627370496 else (4503599627370496 + a % 9223372036854775808 % 4503599627370496) * 2 ^ (a % 9223372036854775808 / 4503599627370496 - 1)
        rw [if_neg (by omega), show a % 9223372036854775808 % 4503599627370496 = a % 4503599627370496 by omega, show a % 9223372036854775808 / 4503599627370496 = a / 4503599627370496 % 2048 by omega]
theorem numC_H (a : Nat) : NumC HALF a := by
  refine ⟨fun h => ?_, fun h => ?_, fun h => ?_⟩
  · rw [fH2, fH3] at h
    rw [numH, if_pos (by omega), if_neg (by omega)]
    exact ⟨_, rfl⟩
  · rw [fH2, fH3] at h
    rw [numH, negH, if_pos (by omega), if_pos (by omega)]
  · rw [fH2, fH3] at h
    rw [numH, negH, fH8, fH2, fH5, if_neg (by omega)]
    unfold valP
    by_cases e : a / 1024 % 32 = 0
    · rw [if_pos e]
      refine ⟨_, 0, rfl, ?_, by show _ < 2048; omega⟩
      show _ = if a % 32768 / 1024 = 0 then a % 32768 % 1024 else _
      rw [if_pos (by omega)]
      omega
    · rw [if_neg e]
      refine ⟨1024 + a % 1024, a / 1024 % 32 - 1, ?_, ?_, by show _ < 2048; omega⟩
      · congr 1
        omega
      · show _ = if a % 32768 / 1024 = 0 then a % 32768 % 1024 else (1024 + a % 32768 % 1024) * 2 ^ (a % 32768 / 1024 - 1)
        rw [if_neg (by omega), show a % 32768 % 1024 = a % 1024 by omega, show a % 32768 / 1024 = a / 1024 % 32 by omega]
theorem numC {F : Fmt} (h : F = SINGLE ∨ F = DOUBLE ∨ F = HALF) (a : Nat) : NumC F a := by
  rcases h with rfl | rfl | rfl
  · exact numC_S a
  · exact numC_D a
  · exact numC_H a
theorem inf_pos {F : Fmt} (h : F = SINGLE ∨ F = DOUBLE ∨ F = HALF) : 0 < F.infinity := by
  rcases h with rfl | rfl | rfl <;> decide
theorem cmp_pl {F : Fmt} (h : F = SINGLE ∨ F = DOUBLE ∨ F = HALF) {a b : Nat} (ha : isNan (num F a) = false) (hb : isNan (num F b) = false) :
    less (num F a) (num F b) = decide (pl F a < pl F b) ∧ equal (num F a) (num F b) = decide (pl F a = pl F b) := by
  obtain ⟨An, Ai, Af⟩ := numC h a
  obtain ⟨Bn, Bi, Bf⟩ := numC h b
  have ip := inf_pos h
  have v0 : valP F.fbits 0 = 0 := by
    unfold valP
    simp
  unfold pl
  generalize a % F.signBit = sa at *
  generalize b % F.signBit = sb at *
  rcases Nat.lt_trichotomy sa F.infinity with qa | qa | qa
  · obtain ⟨m, i, e1, v1, _⟩ := Af (by first | assumption | omega)
    rcases Nat.lt_trichotomy sb F.infinity with qb | qb | qb
    · obtain ⟨n, j, e2, v2, _⟩ := Bf (by first | assumption | omega)
      rw [e1, e2]
      unfold less equal
      dsimp only
      rw [whole_at, whole_at2]
      have l1 := al_lt (p := m) (q := n) (i := i) (j := j)
      have l2 := al_lt (p := n) (q := m) (i := j) (j := i)
      rw [Nat.min_comm j i] at l2
      have z1 := al_lt (p := 0) (q := m) (i := j) (j := i)
      have z2 := al_lt (p := 0) (q := n) (i := i) (j := j)
      rw [Nat.min_comm j i] at z1
      rw [v1, v2, valP_lt_iff] at l1 l2
      rw [v1, Nat.zero_mul, Nat.zero_mul] at z1
      rw [v2, Nat.zero_mul, Nat.zero_mul] at z2
      have y1 := valP_lt_iff (p := F.fbits) (s := 0) (t := sa)
      have y2 := valP_lt_iff (p := F.fbits) (s := 0) (t := sb)
      rw [v0] at y1 y2
      generalize m * 2 ^ (i - min i j) = x at *
      generalize n * 2 ^ (j - min i j) = y at *
      simp only [decide_eq_decide]
      cases negOf F a <;> cases negOf F b <;> simp only [if_true, Bool.false_eq_true, if_false] <;> omega
    · have e2 := Bi (by first | assumption | omega)
      rw [e1, e2]
      unfold less equal
      dsimp only
      cases negOf F a <;> cases negOf F b <;> simp only [if_true, Bool.false_eq_true, if_false, Bool.not_true, Bool.not_false] <;> constructor <;> symm <;> first | (rw [decide_eq_true_eq]; omega) | (rw [decide_eq_false_iff_not]; omega)
    · obtain ⟨s, e2⟩ := Bn (by first | assumption | omega)
      rw [e2] at hb
      cases hb
  · have e1 := Ai (by first | assumption | omega)
    rcases Nat.lt_trichotomy sb F.infinity with qb | qb | qb
    · obtain ⟨n, j, e2, v2, _⟩ := Bf (by first | assumption | omega)
      rw [e1, e2]
      unfold less equal
      dsimp only
      cases negOf F a <;> cases negOf F b <;> simp only [if_true, Bool.false_eq_true, if_false, Bool.not_true, Bool.not_false] <;> constructor <;> symm <;> first | (rw [decide_eq_true_eq]; omega) | (rw [decide_eq_false_iff_not]; omega)
    · have e2 := Bi (by first | assumption | omega)
      rw [e1, e2]
      unfold less equal
      dsimp only
      cases negOf F a <;> cases negOf F b <;> simp only [if_true, Bool.false_eq_true, if_false, Bool.not_true, Bool.not_false, Bool.and_true, Bool.and_false, Bool.and_self, beq_self_eq_true] <;> constructor <;> symm <;> first | (rw [decide_eq_true_eq]; omega) | (rw [decide_eq_false_iff_not]; omega) | (show _ = false; rw [decide_eq_false_iff_not]; omega)
    · obtain ⟨s, e2⟩ := Bn (by first | assumption | omega)
      rw [e2] at hb
      cases hb
  · obtain ⟨s, e1⟩ := An (by first | assumption | omega)
    rw [e1] at ha
    cases ha
/-! bits above the width don't count -/
theorem mod_of {F : Fmt} (h : F = SINGLE ∨ F = DOUBLE ∨ F = HALF) (a : Nat) : negOf F (a % 2 ^ F.width) = negOf F a ∧ a % 2 ^ F.width % F.signBit = a % F.signBit ∧ num F (a % 2 ^ F.width) = num F a := by
  rcases h with rfl | rfl | rfl
  · rw [fS1, fS2, numS, numS, negS, negS, show (2 : Nat) ^ 32 = 4294967296 from rfl]
    have e1 : a % 4294967296 / 8388608 % 256 = a / 8388608 % 256 := by omega
    have e2 : a % 4294967296 % 8388608 = a % 8388608 := by omega
    have e3 : a % 4294967296 / 2147483648 % 2 = a / 2147483648 % 2 := by omega
    rw [e1, e2, e3]
    exact ⟨rfl, by omega, rfl⟩
  · rw [fD1, fD2, numD, numD, negD, negD, show (2 : Nat) ^ 64 = 18446744073709551616 from rfl]
    have e1 : a % 18446744073709551616 / 4503599627370496 % 2048 = a / 4503599627370496 % 2048 := by omega
    have e2 : a % 18446744073709551616 % 4503599627370496 = a % 4503599627370496 := by omega
    have e3 : a % 18446744073709551616 / 9223372036854775808 % 2 = a / 9223372036854775808 % 2 := by omega
    rw [e1, e2, e3]
    exact ⟨rfl, by omega, rfl⟩
  · rw [fH1, fH2, numH, numH, negH, negH, show (2 : Nat) ^ 16 = 65536 from rfl]
    have e1 : a % 65536 / 1024 % 32 = a / 1024 % 32 := by omega
    have e2 : a % 65536 % 1024 = a % 1024 := by omega
    have e3 : a % 65536 / 32768 % 2 = a / 32768 % 2 := by omega
    rw [e1, e2, e3]
    exact ⟨rfl, by omega, rfl⟩
theorem num_mod {F : Fmt} (h : F = SINGLE ∨ F = DOUBLE ∨ F = HALF) (a : Nat) : num F (a % 2 ^ F.width) = num F a := (mod_of h a).2.2
theorem neg_mod {F : Fmt} (h : F = SINGLE ∨ F = DOUBLE ∨ F = HALF) (a : Nat) : negOf F (a % 2 ^ F.width) = negOf F a := (mod_of h a).1
theorem sz_mod {F : Fmt} (h : F = SINGLE ∨ F = DOUBLE ∨ F = HALF) (a : Nat) : a % 2 ^ F.width % F.signBit = a % F.signBit := (mod_of h a).2.1
theorem is_nan {F : Fmt} (h : F = SINGLE ∨ F = DOUBLE ∨ F = HALF) (a : Nat) : isNan (num F a) = decide (F.infinity < a % F.signBit) := by
  obtain ⟨An, Ai, Af⟩ := numC h a
  rcases Nat.lt_trichotomy (a % F.signBit) F.infinity with q | q | q
  · obtain ⟨m, i, e1, _⟩ := Af q
    rw [e1, decide_eq_false (by omega)]; rfl
  · rw [Ai q, decide_eq_false (by omega)]; rfl
  · obtain ⟨s, e1⟩ := An q
    rw [e1, decide_eq_true q]; rfl
theorem is_inf {F : Fmt} (h : F = SINGLE ∨ F = DOUBLE ∨ F = HALF) (a : Nat) : isInf (num F a) = decide (a % F.signBit = F.infinity) := by
  obtain ⟨An, Ai, Af⟩ := numC h a
  rcases Nat.lt_trichotomy (a % F.signBit) F.infinity with q | q | q
  · obtain ⟨m, i, e1, _⟩ := Af q
    rw [e1, decide_eq_false (by omega)]; rfl
  · rw [Ai q, decide_eq_true q]; rfl
  · obtain ⟨s, e1⟩ := An q
    rw [e1, decide_eq_false (by omega)]; rfl
theorem is_zero {F : Fmt} (h : F = SINGLE ∨ F = DOUBLE ∨ F = HALF) (a : Nat) : isZero (num F a) = decide (a % F.signBit = 0) := by
  obtain ⟨An, Ai, Af⟩ := numC h a
  have ip := inf_pos h
  have v0 : valP F.fbits 0 = 0 := by
    unfold valP
    simp
  rcases Nat.lt_trichotomy (a % F.signBit) F.infinity with q | q | q
  · obtain ⟨m, i, e1, e2, _⟩ := Af q
    rw [e1]
    show (m == 0) = _
    have z := valP_eq_iff (p := F.fbits) (s := a % F.signBit) (t := 0)
    rw [v0, ← e2] at z
    by_cases hm : m = 0
    · rw [hm, decide_eq_true (z.mp (by rw [hm, Nat.zero_mul]))]; rfl
    · rw [decide_eq_false fun y => hm ?_]
      · exact beq_eq_false_iff_ne.mpr hm
      · rcases Nat.mul_eq_zero.mp (z.mpr y) with w | w
        · exact w
        · exact absurd w (Nat.ne_of_gt (Nat.two_pow_pos i))
  · rw [Ai q, decide_eq_false (by omega)]; rfl
  · obtain ⟨s, e1⟩ := An q
    rw [e1, decide_eq_false (by omega)]; rfl
theorem own_ext {F : Fmt} (h : F = SINGLE ∨ F = DOUBLE ∨ F = HALF) {a b : Nat} (h1 : negOf F a = negOf F b) (h2 : a % F.signBit = b % F.signBit) : a % 2 ^ F.width = b % 2 ^ F.width := by
  rcases h with rfl | rfl | rfl
  · rw [negS, negS, Bool.eq_iff_iff, beq_iff_eq, beq_iff_eq] at h1
    rw [fS2] at h2
    rw [fS1, show (2 : Nat) ^ 32 = 4294967296 from rfl]
    omega
  · rw [negD, negD, Bool.eq_iff_iff, beq_iff_eq, beq_iff_eq] at h1
    rw [fD2] at h2
    rw [fD1, show (2 : Nat) ^ 64 = 18446744073709551616 from rfl]
    omega
  · rw [negH, negH, Bool.eq_iff_iff, beq_iff_eq, beq_iff_eq] at h1
    rw [fH2] at h2
    rw [fH1, show (2 : Nat) ^ 16 = 65536 from rfl]
    omega
theorem canon_lt {F : Fmt} (h : F = SINGLE ∨ F = DOUBLE ∨ F = HALF) : F.canonical % 2 ^ F.width = F.canonical := by
  rcases h with rfl | rfl | rfl <;> decide
theorem pl_eq {F : Fmt} {a b : Nat} (h : pl F a = pl F b) (hz : ¬ (a % F.signBit = 0 ∧ b % F.signBit = 0)) : negOf F a = negOf F b ∧ a % F.signBit = b % F.signBit := by
  unfold pl at h
  cases ha : negOf F a <;> cases hb : negOf F b <;> simp only [ha, hb, if_true, Bool.false_eq_true, if_false] at h <;> refine ⟨?_, ?_⟩ <;> first | rfl | omega | (exfalso; omega)
end FH
end
section
set_option linter.all false
set_option Elab.async false
set_option maxRecDepth 10000
namespace FH
open RvNum RvMach
local macro_rules | `(tactic| array_get_dec) => `(tactic| simp only [senv, List.map_cons, List.map_nil, List.length_cons, List.length_nil, Nat.reduceAdd, Nat.reduceSub, List.replicate_zero, List.replicate_succ, List.cons_append, List.nil_append, List.append_nil, List.set_cons_zero, List.set_cons_succ,
  exs, ex, ev, evs, evAnd, evOr, op2, cp2, onInt, onBl, onSeq, onLst, onTup, onMach, onInts, onSome, intsOf, Option.map_some, Option.map_none, getS_0, getS_n, getS_s, setAll, atQ, fromQ, decide_eq_true_eq, Bool.not_eq_true', decide_eq_false_iff_not, Bool.true_eq_false, Bool.false_eq_true, if_true, if_false, ite_true, ite_false, outQ_ok, outQ_flt, and_true, true_and, PV.int.injEq, PV.bl.injEq, PV.tup.injEq, PV.lst.injEq, c0, c1, c2, c3, c4, c5, c6, c7, c8, c9, c10, c11, c12, c13, c14, c15, c16, c17, c18, c19, c20, c21, c22, c23, c24, c25, c26, c27, c28, c29, c30, c31, c32, c33, c34, c35, c36, c37, c38, c39, c40, c41, c42, c43, c44, c45, c46, c47, c48, c49, c50, c51, c52, c53, c54, c55, c56, c57, c58, c59, c60, c61, c62, c63, c64, c65, c67, c68, c69, c70, c71, c72, c73, c74, c75, c76, c77, c78, c79, c80, c81, c82, c83, c84, c85, c86, c87, c88, c89, c90, c91, c92, c93, c94, c95, c96, c97, c98, c99, c100, c101, c102, c103, c104, c105, c106, c107, c108, c109, c110, c111, c112, c113, c114, c115, c116, c117, c118, c119, c120, c121, c122, c123, c124, c125, c126, c127, c128, c129, c130, c131, c132, c133, c134, c135, tc0, tc1, tc2, tc3, tc4, tc5, tc6, tc7, tc8, tc9, tc10, tc11, tc12, tc13, tc14, tc15, tc16, tc17, tc18, tc19, tc20, tc21, tc22, tc23, tc24, tc25, tc26, tc27, tc28, tc29, tc30, tc31, tc32, tc33, tc34, tc35, tc36, tc37, tc38, tc39, tc40, tc41, tc42, tc43, tc44, tt0, tt1, tt2, tt3, tt4, td0, td1])
theorem pM_0 {F : Fmt} {a : Nat} (h : expoOf F a = 0) : pM F a = fracOf F a := if_pos h
theorem pM_1 {F : Fmt} {a : Nat} (h : expoOf F a ≠ 0) : pM F a = 2 ^ F.fbits + fracOf F a := if_neg h
theorem pE_0 {F : Fmt} {a : Nat} (h : expoOf F a = 0) : pE F a = F.unit := if_pos h
theorem pE_1 {F : Fmt} {a : Nat} (h : expoOf F a ≠ 0) : pE F a = F.unit + (expoOf F a : Int) - 1 := if_neg h
theorem cons3 {a b c x y z : Int} (h1 : a = x) (h2 : b = y) (h3 : c = z) : [a, b, c] = [x, y, z] := by rw [h1, h2, h3]
theorem g18 : Good tb (tb.fn 18) 2 6 k18 := by
  refine gd18 rfl fun F m f a h => ?_
  unfold k18
  array_get_dec
  refine ⟨okF_lt h.1, h, ?_⟩
  obtain ⟨h, h0⟩ := h
  obtain ⟨a, rfl⟩ := Int.eq_ofNat_of_zero_le h0
  have hb : ∀ (x k : Nat), x < 2 ^ 64 → ((ibits ((x : Int) / ((2 ^ k : Nat) : Int)) : Nat) : Int) ≤ 64 := fun x k hx => by
    rw [show ((x : Int) / ((2 ^ k : Nat) : Int)) = ((x / 2 ^ k : Nat) : Int) from by simp]
    have := ibits_le (k := 64) (Nat.lt_of_le_of_lt (Nat.div_le_self x (2 ^ k)) hx)
    omega
  simp only [Int.toNat_natCast]
  rcases cat3 h with rfl | rfl | rfl
  · simp only [ct3_0, fm_0, fS2, fS5, fS7]
    have q := hb (a % 2147483648) 23 (by omega)
    refine ⟨by decide, ⟨by decide, ?_⟩, ?_⟩
    · show ((ibits ((a % 2147483648 : Nat) / ((8388608 : Nat) : Int)) : Nat) : Int) + 23 ≤ _
      have q2 : ((ibits ((a % 2147483648 : Nat) / ((8388608 : Nat) : Int)) : Nat) : Int) ≤ 64 := q
      omega
    show (if ((a % 2147483648 : Nat) : Int) / 8388608 = 0 then _ else _)
    split
    · refine ⟨⟨h, h0⟩, h, ?_⟩
      have e0 : expoOf SINGLE a = 0 := by rw [expS]; omega
      rw [pM_0 e0, pE_0 e0, fraS, fS8]
      refine cons3 rfl ?_ (by decide)
      show ((a % 2147483648 : Nat) : Int) - ((a % 2147483648 : Nat) : Int) / 8388608 * 8388608 = _
      omega
    · refine ⟨⟨h, h0⟩, ⟨by decide, by decide⟩, h, ?_⟩
      have e0 : expoOf SINGLE a ≠ 0 := by rw [expS]; omega
      rw [pM_1 e0, pE_1 e0, fraS, fS8, expS, fS5]
      refine cons3 rfl ?_ ?_
      · show ((a % 2147483648 : Nat) : Int) - ((a % 2147483648 : Nat) : Int) / 8388608 * 8388608 + 1 * 8388608 = ((8388608 + a % 8388608 : Nat) : Int)
        omega
      · show ((a % 2147483648 : Nat) : Int) / 8388608 - 127 - 23 = _
        omega
  · simp only [ct3_1, fm_1, fD2, fD5, fD7]
    have q := hb (a % 9223372036854775808) 52 (by omega)
    refine ⟨by decide, ⟨by decide, ?_⟩, ?_⟩
    · show ((ibits ((a % 9223372036854775808 : Nat) / ((4503599627370496 : Nat) : Int)) : Nat) : Int) + 52 ≤ _
      have q2 : ((ibits ((a % 9223372036854775808 : Nat) / ((4503599627370496 : Nat) : Int)) : Nat) : Int) ≤ 64 := q
      omega
    show (if ((a % 9223372036854775808 : Nat) : Int) / 4503599627370496 = 0 then _ else _)
    split
    · refine ⟨⟨h, h0⟩, h, ?_⟩
      have e0 : expoOf DOUBLE a = 0 := by rw [expD]; omega
      rw [pM_0 e0, pE_0 e0, fraD, fD8]
      refine cons3 rfl ?_ (by decide)
      show ((a % 9223372036854775808 : Nat) : Int) - ((a % 9223372036854775808 : Nat) : Int) / 4503599627370496 * 4503599627370496 = _
      omega
    · refine ⟨⟨h, h0⟩, ⟨by decide, by decide⟩, h, ?_⟩
      have e0 : expoOf DOUBLE a ≠ 0 := by rw [expD]; omega
      rw [pM_1 e0, pE_1 e0, fraD, fD8, expD, fD5]
      refine cons3 rfl ?_ ?_
      · show ((a % 9223372036854775808 : Nat) : Int) - ((a % 9223372036854775808 : Nat) : Int) / 4503599627370496 * 4503599627370496 + 1 * 4503599627370496 = ((4503599627370496 + a % 4503599627370496 : Nat) : Int)
        omega
      · show ((a % 9223372036854775808 : Nat) : Int) / 4503599627370496 - 1023 - 52 = _
        omega
  · simp only [ct3_2, fm_2, fH2, fH5, fH7]
    have q := hb (a % 32768) 10 (by omega)
    refine ⟨by decide, ⟨by decide, ?_⟩, ?_⟩
    · show ((ibits ((a % 32768 : Nat) / ((1024 : Nat) : Int)) : Nat) : Int) + 10 ≤ _
      have q2 : ((ibits ((a % 32768 : Nat) / ((1024 : Nat) : Int)) : Nat) : Int) ≤ 64 := q
      omega
    show (if ((a % 32768 : Nat) : Int) / 1024 = 0 then _ else _)
    split
    · refine ⟨⟨h, h0⟩, h, ?_⟩
      have e0 : expoOf HALF a = 0 := by rw [expH]; omega
      rw [pM_0 e0, pE_0 e0, fraH, fH8]
      refine cons3 rfl ?_ (by decide)
      show ((a % 32768 : Nat) : Int) - ((a % 32768 : Nat) : Int) / 1024 * 1024 = _
      omega
    · refine ⟨⟨h, h0⟩, ⟨by decide, by decide⟩, h, ?_⟩
      have e0 : expoOf HALF a ≠ 0 := by rw [expH]; omega
      rw [pM_1 e0, pE_1 e0, fraH, fH8, expH, fH5]
      refine cons3 rfl ?_ ?_
      · show ((a % 32768 : Nat) : Int) - ((a % 32768 : Nat) : Int) / 1024 * 1024 + 1 * 1024 = ((1024 + a % 1024 : Nat) : Int)
        omega
      · show ((a % 32768 : Nat) : Int) / 1024 - 15 - 10 = _
        omega
theorem any_take {α : Type} (p : α → Bool) (d : α) : ∀ (l : List α) (t : Nat), t < l.length → (l.take (t + 1)).any p = ((l.take t).any p || p (l.getD t d))
  | [], t, h => by cases h
  | a :: l, 0, _ => by simp
  | a :: l, t + 1, h => by
    have := any_take p d l t (by simpa using h)
    simp only [List.take_succ_cons, List.any_cons, this, List.getD_cons_succ, Bool.or_assoc]
theorem g19 : Good tb (tb.fn 19) 2 3 k19 := by
  refine gd19 rfl fun F m f l h => ?_
  unfold k19
  array_get_dec
  refine ⟨fun t s m' => m' = m ∧ (∃ o, s = [some (.int f), some (.tup l), o]) ∧ (l.take t).any (fun a => signals (num (fm f) a.toNat)) = false, ⟨rfl, ⟨none, rfl⟩, rfl⟩, ?_⟩
  rintro t s m' ⟨rfl, ⟨o, rfl⟩, hany⟩
  obtain ⟨h, hl⟩ := h
  split
  · rename_i ht
    have hmem : l.getD t 0 ∈ l := by
      rw [List.getD_eq_getElem?_getD, List.getElem?_eq_getElem ht]
      exact List.getElem_mem ht
    array_get_dec
    refine ⟨⟨h, hl _ hmem⟩, ?_⟩
    split
    · rename_i c
      rw [if_pos]
      · rw [List.any_map, List.any_eq_true]
        exact ⟨_, hmem, c⟩
    · rename_i c
      refine ⟨⟨_, rfl⟩, ?_⟩
      rw [any_take _ 0 l t ht, hany, Bool.false_or]
      exact Bool.eq_false_iff.mpr c
  · rename_i ht
    rw [List.take_of_length_le (by omega)] at hany
    array_get_dec
    rw [List.any_map, if_neg]
    intro z
    rw [show (signals ∘ fun a => num (fm f) a.toNat) = fun a : Int => signals (num (fm f) a.toNat) from rfl, hany] at z
    cases z
theorem g20 : Good tb (tb.fn 20) 2 2 k20 := by
  refine gd20 rfl fun F m f a h => ?_
  unfold k20
  array_get_dec
  refine ⟨h, ?_⟩
  unfold pl b2i
  cases negOf (fm f) a.toNat <;> simp [h]
theorem g21 : Good tb (tb.fn 21) 3 3 k21 := by
  refine gd21 rfl fun F m f a b h => ?_
  unfold k21
  array_get_dec
  obtain ⟨h, ha, hb⟩ := h
  unfold goesN
  refine ⟨⟨h, ha⟩, ?_⟩
  cases h1 : isZero (num (fm f) a.toNat)
  · simp [h, ha, hb]
  · simp only [if_true, true_and]
    refine ⟨⟨h, hb⟩, ?_⟩
    cases h2 : isZero (num (fm f) b.toNat)
    · simp [h, ha, hb]
    · simp only [if_true]
      exact ⟨⟨h, ha⟩, (b2i_1 _).1⟩
theorem g22 : Good tb (tb.fn 22) 4 4 k22 := by
  refine gd22 rfl fun F m f g a b h => ?_
  unfold k22
  array_get_dec
  obtain ⟨h, ha, hb⟩ := h
  unfold chN
  obtain ⟨a, rfl⟩ := Int.eq_ofNat_of_zero_le ha
  obtain ⟨b, rfl⟩ := Int.eq_ofNat_of_zero_le hb
  simp only [Int.toNat_natCast]
  cases isNan (num (fm f) a) <;> cases isNan (num (fm f) b) <;> cases goesN (fm f) a b <;> cases g <;> simp [h, ha, hb]
theorem g23 : Good tb (tb.fn 23) 4 4 k23 := by
  refine gd23 rfl fun F m f g a b h => ?_
  unfold k23
  array_get_dec
  obtain ⟨h, ha, hb⟩ := h
  refine ⟨⟨h, ha, hb⟩, ⟨h, Int.natCast_nonneg _⟩, ⟨h, ?_⟩, ?_⟩
  · intro x hx
    simp only [List.mem_cons, List.not_mem_nil, or_false] at hx
    rcases hx with rfl | rfl <;> assumption
  · have H := isF3 h
    obtain ⟨a, rfl⟩ := Int.eq_ofNat_of_zero_le ha
    obtain ⟨b, rfl⟩ := Int.eq_ofNat_of_zero_le hb
    simp only [Int.toNat_natCast, List.any_cons, List.any_nil, Bool.or_false, List.map_cons, List.map_nil]
    have key : ∀ p q : Nat × Nat, p.1 = q.1 → p.2 = q.2 → PV.tup [(p.1 : Int), (p.2 : Int)] = t2 q := fun p q e1 e2 => by
      obtain ⟨p1, p2⟩ := p
      obtain ⟨q1, q2⟩ := q
      cases e1
      cases e2
      rfl
    have fl : ∀ x y : Bool, ((if (x || y) = true then 16 else 0 : Int)) = ((if x = true ∨ y = true then NV else 0 : Nat) : Int) := by
      intro x y
      cases x <;> cases y <;> rfl
    rw [fl]
    refine key (chN (fm f) g a b % 2 ^ (fm f).width, _) _ ?_ ?_
    · show chN (fm f) g a b % 2 ^ (fm f).width = _
      unfold fmin fmax chN goesN
      simp only [num_mod H, neg_mod H]
      cases ha : isNan (num (fm f) a)
      · cases hb : isNan (num (fm f) b)
        · obtain ⟨l1, _⟩ := cmp_pl H ha hb
          obtain ⟨l2, _⟩ := cmp_pl H hb ha
          simp only [l1, l2]
          simp only [is_zero H, decide_eq_true_eq]
          by_cases hz : a % (fm f).signBit = 0 ∧ b % (fm f).signBit = 0
          · have p1 : pl (fm f) a = 0 := by unfold pl; rw [hz.1]; cases negOf (fm f) a <;> rfl
            have p2 : pl (fm f) b = 0 := by unfold pl; rw [hz.2]; cases negOf (fm f) b <;> rfl
            rw [if_pos hz, p1, p2]
            cases g <;> cases negOf (fm f) a <;> simp
          · rw [if_neg hz]
            rcases Int.lt_trichotomy (pl (fm f) a) (pl (fm f) b) with q | q | q
            · have n1 : pl (fm f) a ≤ pl (fm f) b := by omega
              cases g <;> simp [n1, q]
            · have e := own_ext H (pl_eq q hz).1 (pl_eq q hz).2
              have n1 : pl (fm f) a ≤ pl (fm f) b := by omega
              have n2 : ¬ pl (fm f) a < pl (fm f) b := by omega
              have n3 : ¬ pl (fm f) b < pl (fm f) a := by omega
              cases g <;> cases negOf (fm f) a <;> simp [n1, n2, n3, e]
            · have n1 : ¬ pl (fm f) a ≤ pl (fm f) b := by omega
              have n2 : ¬ pl (fm f) a < pl (fm f) b := by omega
              cases g <;> simp [n1, n2, q]
        · cases g <;> simp
      · cases hb : isNan (num (fm f) b)
        · cases g <;> simp
        · cases g <;> simp [canon_lt H]
    · show _ = _
      unfold fmin fmax
      simp only [num_mod H, neg_mod H]
      cases g <;> rfl
theorem g25 : Good tb (tb.fn 25) 4 4 k25 := by
  refine gd25 rfl fun F m f k a b h => ?_
  unfold k25
  array_get_dec
  obtain ⟨h, ha, hb⟩ := h
  have hl : ∀ x ∈ [a, b], 0 ≤ x := by
    intro x hx
    simp only [List.mem_cons, List.not_mem_nil, or_false] at hx
    rcases hx with rfl | rfl <;> assumption
  have e : ∀ n : Nat, PV.tup [0, (n : Int)] = t2 (0, n) := fun n => rfl
  by_cases k1 : k = 1
  · simp only [k1, decide_true, if_true, true_or]
    exact e 16
  · by_cases k2 : k = 2
    · simp only [k2]
      exact e 16
    · simp only [k1, k2, decide_false, Bool.false_eq_true, if_false, or_self]
      refine ⟨⟨h, hl⟩, ?_⟩
      rw [← e]
      simp only [List.map_cons, List.map_nil, List.any_cons, List.any_nil, Bool.or_false]
      cases signals (num (fm f) a.toNat) <;> cases signals (num (fm f) b.toNat) <;> rfl
theorem g26 : Good tb (tb.fn 26) 4 4 k26 := by
  refine gd26 rfl fun F m f k a b h => ?_
  unfold k26
  array_get_dec
  obtain ⟨h, ha, hb⟩ := h
  have A : okF f ∧ 0 ≤ a := ⟨h, ha⟩
  have B : okF f ∧ 0 ≤ b := ⟨h, hb⟩
  by_cases k0 : k = 0
  · simp only [k0, if_true]
    exact ⟨A, B, trivial⟩
  · simp only [k0, if_false]
    by_cases k1 : k = 1
    · simp only [k1, decide_true, if_true, true_or]
      exact ⟨A, B, trivial⟩
    · by_cases k3 : k = 3
      · simp [k3, A, B]
      · simp only [k1, k3, decide_false, Bool.false_eq_true, if_false, or_self]
        exact ⟨A, B, trivial⟩
theorem fl2 (x y : Bool) : ((if (x || y) = true then 16 else 0 : Int)) = ((if x = true ∨ y = true then NV else 0 : Nat) : Int) := by
  cases x <;> cases y <;> rfl
theorem g27 : Good tb (tb.fn 27) 4 4 k27 := by
  refine gd27 rfl fun F m f k a b h => ?_
  unfold k27
  array_get_dec
  obtain ⟨h, hk, ha, hb⟩ := h
  have A : okF f ∧ 0 ≤ a := ⟨h, ha⟩
  have B : okF f ∧ 0 ≤ b := ⟨h, hb⟩
  have C : okF f ∧ 0 ≤ a ∧ 0 ≤ b := ⟨h, ha, hb⟩
  have H := isF3 h
  obtain ⟨a, rfl⟩ := Int.eq_ofNat_of_zero_le ha
  obtain ⟨b, rfl⟩ := Int.eq_ofNat_of_zero_le hb
  have hk5 : k = 0 ∨ k = 1 ∨ k = 2 ∨ k = 3 ∨ k = 4 := by omega
  unfold RvNum.compare
  have e1 : num (fmtOf f.toNat) (a % 2 ^ (fmtOf f.toNat).width) = num (fm f) a := num_mod H a
  have e2 : num (fmtOf f.toNat) (b % 2 ^ (fmtOf f.toNat).width) = num (fm f) b := num_mod H b
  simp only [Int.toNat_natCast, e1, e2, feq, flt, fle]
  have nn : ∀ x : Num, isNan x = true → ∃ s, x = .nan s := fun x h => by cases x <;> first | exact ⟨_, rfl⟩ | cases h
  have t : ∀ p : Bool, PV.tup [(if p = true then 1 else 0 : Int), 0] = t2 (answer (p, 0)) := fun p => by cases p <;> rfl
  have v : ∀ n : Nat, PV.tup [0, (n : Int)] = t2 (answer (false, n)) := fun n => rfl
  have z : ∀ x y : Bool, t2 (0, if x = true ∨ y = true then 16 else 0) = t2 (answer (false, if x = true ∨ y = true then NV else 0)) := fun x y => by cases x <;> cases y <;> rfl
  refine ⟨A, ?_⟩
  cases na : isNan (num (fm f) a)
  · simp only [Bool.false_eq_true, if_false]
    refine ⟨B, ?_⟩
    cases nb : isNan (num (fm f) b)
    · simp only [Bool.false_eq_true, if_false]
      obtain ⟨l1, l2⟩ := cmp_pl H na nb
      refine ⟨C, ?_⟩
      have s1 : signals (num (fm f) a) = false := by
        cases q : num (fm f) a <;> rw [q] at na <;> first | rfl | cases na
      have s2 : signals (num (fm f) b) = false := by
        cases q : num (fm f) b <;> rw [q] at nb <;> first | rfl | cases nb
      have le : (decide (pl (fm f) a < pl (fm f) b) || decide (pl (fm f) a = pl (fm f) b)) = decide (pl (fm f) a ≤ pl (fm f) b) := by
        rw [Bool.eq_iff_iff]
        simp only [Bool.or_eq_true, decide_eq_true_eq]
        omega
      simp only [l1, l2, s1, s2, le]
      have t2' : ∀ (p : Bool) (q : PV), q = t2 (answer (p, 0)) → (if p = true then PV.tup [1, 0] = q else PV.tup [0, 0] = q) := fun p q e => by
        rw [e]
        cases p <;> rfl
      refine t2' _ _ ?_
      rcases hk5 with rfl | rfl | rfl | rfl | rfl <;> simp
    · obtain ⟨s, e⟩ := nn _ nb
      simp only [e]
      have d1 : less (num (fm f) a) (.nan s) = false := by cases num (fm f) a <;> rfl
      have d2 : equal (num (fm f) a) (.nan s) = false := by cases num (fm f) a <;> rfl
      simp only [d1, d2, isNan, if_true, or_true]
      refine ⟨C, ?_⟩
      rcases hk5 with rfl | rfl | rfl | rfl | rfl <;> simp [z, signals] <;> first | rfl | (cases signals (num (fm f) a) <;> cases s <;> rfl)
  · obtain ⟨s, e⟩ := nn _ na
    simp only [e]
    have d1 : less (.nan s) (num (fm f) b) = false := by cases num (fm f) b <;> rfl
    have d2 : equal (.nan s) (num (fm f) b) = false := by cases num (fm f) b <;> rfl
    simp only [d1, d2, if_true, true_or]
    refine ⟨C, ?_⟩
    rcases hk5 with rfl | rfl | rfl | rfl | rfl <;> simp [z, signals] <;> first | rfl | (cases signals (num (fm f) b) <;> cases s <;> rfl)
theorem g28 : Good tb (tb.fn 28) 2 2 k28 := by
  refine gd28 rfl fun F m f a h => ?_
  unfold k28
  array_get_dec
  refine ⟨h, ?_⟩
  unfold belowN
  cases isInf (num (fm f) a.toNat) <;> cases isZero (num (fm f) a.toNat) <;> simp [h]
theorem sh1 (n : Nat) : (1 : Int) * 2 ^ ((n : Int)).toNat = ((2 ^ n : Nat) : Int) := by simp
theorem g29 : Good tb (tb.fn 29) 2 2 k29 := by
  refine gd29 rfl fun F m f a h => ?_
  unfold k29
  array_get_dec
  refine ⟨h, ?_⟩
  have H := isF3 h.1
  have hh := h
  obtain ⟨h, h0⟩ := h
  obtain ⟨a, rfl⟩ := Int.eq_ofNat_of_zero_le h0
  unfold classOf fclass belowN
  have e1 : num (fmtOf f.toNat) (a % 2 ^ (fmtOf f.toNat).width) = num (fm f) a := num_mod H a
  have e3 : a % 2 ^ (fm f).width % (fm f).signBit = a % (fm f).signBit := sz_mod H a
  have e2 : (expoOf (fm f) (a % 2 ^ (fm f).width) = 0) = (a % (fm f).signBit < 2 ^ (fm f).fbits) := by
    rcases H with H | H | H <;> rw [H]
    · rw [expS, fS1, fS2, fS5]
      exact propext (by show a % 4294967296 / 8388608 % 256 = 0 ↔ a % 2147483648 < 8388608; omega)
    · rw [expD, fD1, fD2, fD5]
      exact propext (by show a % 18446744073709551616 / 4503599627370496 % 2048 = 0 ↔ a % 9223372036854775808 < 4503599627370496; omega)
    · rw [expH, fH1, fH2, fH5]
      exact propext (by show a % 65536 / 1024 % 32 = 0 ↔ a % 32768 < 1024; omega)
  have e2' : (expoOf (fmtOf f.toNat) (a % 2 ^ (fmtOf f.toNat).width) = 0) = (a % (fm f).signBit < 2 ^ (fm f).fbits) := e2
  simp only [Int.toNat_natCast, e1, e2']
  have iz := is_zero H a
  obtain ⟨An, Ai, Af⟩ := numC H a
  rcases Nat.lt_trichotomy (a % (fm f).signBit) (fm f).infinity with q | q | q
  · obtain ⟨mm, i, e, _⟩ := Af q
    rw [e] at iz
    have iz2 : (mm == 0) = decide (a % (fm f).signBit = 0) := iz
    have iz3 : (mm = 0) = (a % (fm f).signBit = 0) := by
      rw [Bool.eq_iff_iff, beq_iff_eq, decide_eq_true_eq] at iz2
      exact propext iz2
    simp only [e, isNan, isInf, isZero, iz2, iz3]
    by_cases z : a % (fm f).signBit = 0
    · cases negOf (fm f) a <;> simp [z, h, b2i] <;> decide
    · by_cases y : a % (fm f).signBit < 2 ^ (fm f).fbits
      · have y0 : 0 < a % (fm f).signBit := Nat.pos_of_ne_zero z
        cases negOf (fm f) a <;> simp [z, y, y0, h, b2i] <;> decide
      · cases negOf (fm f) a <;> simp [z, y, h, b2i] <;> decide
  · rw [Ai q]
    simp only [isNan, isInf]
    cases negOf (fm f) a <;> simp [h, b2i] <;> decide
  · obtain ⟨s, e⟩ := An q
    rw [e]
    simp only [isNan, signals, if_true]
    cases s <;> simp [h] <;> decide
theorem g30 : Good tb (tb.fn 30) 5 5 k30 := by
  refine gd30 rfl fun F μ m s k r d h => ?_
  unfold k30
  array_get_dec
  unfold growN
  by_cases m1 : m = 1
  · simp [m1]
  · by_cases m2 : m = 2
    · simp [m2]
    · by_cases m3 : m = 3
      · simp [m3]
      · by_cases rd : r = d
        · by_cases m4 : m = 4
          · simp [m4, rd]
          · simp [m1, m2, m3, m4, rd]
        · simp [m1, m2, m3, rd]

end FH
end
section
set_option linter.all false
set_option Elab.async false
/-! rounding: the exact parts -/
namespace FH
open RvNum RvMach
theorem ratioAt_sub (a b : Nat) (s k : Int) : ratioAt a b s k = ratioAt a b (s - k) 0 := by
  unfold ratioAt
  rw [show s - k - 0 = s - k by omega, show 0 - (s - k) = k - s by omega]
theorem ratioAt_one (n : Nat) (s k : Int) : ratioAt n 1 s k = if k ≤ s then (n * 2 ^ (s - k).toNat, 0) else (n / 2 ^ (k - s).toNat, restOf (n % 2 ^ (k - s).toNat) (2 ^ (k - s).toNat)) := by
  unfold ratioAt
  by_cases h : k ≤ s
  · rw [if_pos h, show (k - s).toNat = 0 by omega]
    simp [restOf, Nat.mod_one]
  · rw [if_neg h, show (s - k).toNat = 0 by omega]
    simp
theorem rounded_0 (m : Nat) (neg : Bool) (q : Nat) : RvNum.rounded m neg (q, 0) = q := by
  unfold RvNum.rounded
  rw [if_neg]
  by_cases h0 : m = 0
  · simp [h0]
  · by_cases h1 : m = 1
    · simp [h1]
    · by_cases h2 : m = 2
      · simp [h2]
      · by_cases h3 : m = 3
        · simp [h3]
        · simp [h0, h1, h2, h3]
theorem rounded_le (m : Nat) (neg : Bool) (x : Nat × Rest) : x.1 ≤ RvNum.rounded m neg x ∧ RvNum.rounded m neg x ≤ x.1 + 1 := by
  unfold RvNum.rounded
  generalize (if m = 0 then x.2 == 3 || (x.2 == 2 && x.1 % 2 == 1) else if m = 1 then false else if m = 2 then neg && x.2 != 0 else if m = 3 then !neg && x.2 != 0 else x.2 == 3 || x.2 == 2 : Bool) = b
  cases b
  · exact ⟨Nat.le_refl _, Nat.le_succ _⟩
  · exact ⟨Nat.le_succ _, Nat.le_refl _⟩
theorem restOf_0 {r d : Nat} : restOf r d = 0 ↔ r = 0 := by
  unfold restOf
  by_cases h : r = 0
  · rw [if_pos h]
    exact ⟨fun _ => h, fun _ => rfl⟩
  · rw [if_neg h]
    refine ⟨fun z => ?_, fun z => absurd z h⟩
    split at z
    · cases z
    · split at z <;> cases z
/-- what grows -/
theorem grow_ok {m s : Int} {kept r mid : Nat} (hm : 0 ≤ m ∧ m ≤ 4) (hs : s = 0 ∨ s = 1) (h0 : 0 < r) (h2 : r < 2 * mid) :
    RvNum.rounded m.toNat (decide (s = 1)) (kept, restOf r (2 * mid)) = if growN m s kept r mid = true then kept + 1 else kept := by
  have e : restOf r (2 * mid) = if r = mid then 2 else if mid < r then 3 else 1 := by
    unfold restOf
    rw [if_neg (by omega)]
    by_cases q : r = mid
    · rw [if_pos q, if_neg (by omega), if_pos (by omega)]
    · rw [if_neg q]
      by_cases p : mid < r
      · rw [if_pos p, if_neg (by omega), if_neg (by omega)]
      · rw [if_neg p, if_pos (by omega)]
  rw [e]
  unfold RvNum.rounded growN
  have hk : ((kept : Int) % 2 = 1) = (kept % 2 = 1) := propext (by omega)
  have hr : ((r : Int) = (mid : Int)) = (r = mid) := propext (by omega)
  have hl : ((mid : Int) < (r : Int)) = (mid < r) := propext (by omega)
  simp only [hk, hr, hl]
  have h5 : m = 0 ∨ m = 1 ∨ m = 2 ∨ m = 3 ∨ m = 4 := by omega
  by_cases q : r = mid
  · simp only [if_pos q]
    rcases h5 with rfl | rfl | rfl | rfl | rfl <;> rcases hs with rfl | rfl <;> simp
  · simp only [if_neg q]
    by_cases p : mid < r
    · simp only [if_pos p]
      rcases h5 with rfl | rfl | rfl | rfl | rfl <;> rcases hs with rfl | rfl <;> simp [p]
    · simp only [if_neg p]
      rcases h5 with rfl | rfl | rfl | rfl | rfl <;> rcases hs with rfl | rfl <;> simp [p]
/-! logs -/
theorem log2_ge {n k : Nat} (h : 2 ^ k ≤ n) : k ≤ n.log2 := (Nat.le_log2 (Nat.ne_of_gt (Nat.lt_of_lt_of_le (Nat.two_pow_pos k) h))).mpr h
theorem log2_lt {n k : Nat} (h0 : n ≠ 0) (h : n < 2 ^ k) : n.log2 < k := (Nat.log2_lt h0).mpr h
theorem log2_eq {n k : Nat} (h1 : 2 ^ k ≤ n) (h2 : n < 2 ^ (k + 1)) : n.log2 = k := by
  have a := log2_ge h1
  have b := log2_lt (Nat.ne_of_gt (Nat.lt_of_lt_of_le (Nat.two_pow_pos k) h1)) h2
  omega
theorem log2_self {n : Nat} (h : n ≠ 0) : 2 ^ n.log2 ≤ n ∧ n < 2 ^ (n.log2 + 1) := ⟨Nat.log2_self_le h, Nat.lt_log2_self⟩
theorem ratio_one (n : Nat) (hn : n ≠ 0) (k : Int) : ratio n 1 k = ⟨ratioAt n 1 k, (n.log2 : Int) + k + 1⟩ := by
  unfold ratio
  have e : ((Nat.log2 1 : Nat) : Int) = 0 := rfl
  rw [e]
  dsimp only
  congr 1
  rw [if_pos]
  · omega
  · rw [ratioAt_one, show ((n.log2 : Int) - 0 + k - k).toNat = n.log2 by omega]
    by_cases h : (n.log2 : Int) - 0 + k ≤ k
    · rw [if_pos h]
      show 1 ≤ n * 2 ^ _
      exact Nat.mul_pos (Nat.pos_of_ne_zero hn) (Nat.two_pow_pos _)
    · rw [if_neg h]
      show 1 ≤ n / 2 ^ _
      exact Nat.div_pos (log2_self hn).1 (Nat.two_pow_pos _)
/-- the size at the grid of the leading bits -/
theorem top_bits {n : Nat} (hn : n ≠ 0) (p : Nat) (k g : Int) (hg : (n.log2 : Int) + k - p = g) : 2 ^ p ≤ (ratioAt n 1 k g).1 ∧ (ratioAt n 1 k g).1 < 2 ^ (p + 1) := by
  obtain ⟨h1, h2⟩ := log2_self hn
  rw [ratioAt_one]
  split
  · rename_i q
    show 2 ^ p ≤ n * 2 ^ _ ∧ n * 2 ^ _ < 2 ^ (p + 1)
    obtain ⟨j, hj⟩ : ∃ j : Nat, p = n.log2 + j := ⟨p - n.log2, by omega⟩
    rw [show (k - g).toNat = j by omega, hj]
    constructor
    · rw [Nat.pow_add]
      exact Nat.mul_le_mul_right _ h1
    · rw [show n.log2 + j + 1 = (n.log2 + 1) + j by omega, Nat.pow_add]
      exact Nat.mul_lt_mul_of_pos_right h2 (Nat.two_pow_pos _)
  · rename_i q
    show 2 ^ p ≤ n / 2 ^ _ ∧ n / 2 ^ _ < 2 ^ (p + 1)
    obtain ⟨j, hj⟩ : ∃ j : Nat, n.log2 = p + j := ⟨n.log2 - p, by omega⟩
    rw [show (g - k).toNat = j by omega]
    rw [hj] at h1 h2
    constructor
    · rw [Nat.le_div_iff_mul_le (Nat.two_pow_pos _), ← Nat.pow_add]
      exact h1
    · rw [Nat.div_lt_iff_lt_mul (Nat.two_pow_pos _), ← Nat.pow_add, show p + 1 + j = p + j + 1 by omega]
      exact h2
/-- above that grid there is less -/
theorem low_bits {n : Nat} (hn : n ≠ 0) (p : Nat) (k g : Int) (hg : (n.log2 : Int) + k - p < g) : (ratioAt n 1 k g).1 < 2 ^ p := by
  obtain ⟨h1, h2⟩ := log2_self hn
  rw [ratioAt_one]
  split
  · rename_i q
    show n * 2 ^ _ < 2 ^ p
    obtain ⟨j, hj⟩ : ∃ j : Nat, (k - g).toNat = j := ⟨_, rfl⟩
    rw [hj]
    have h3 : n.log2 + 1 + j ≤ p := by omega
    refine Nat.lt_of_lt_of_le ?_ (Nat.pow_le_pow_right (by decide) h3)
    rw [Nat.pow_add]
    exact Nat.mul_lt_mul_of_pos_right h2 (Nat.two_pow_pos _)
  · rename_i q
    show n / 2 ^ _ < 2 ^ p
    rw [Nat.div_lt_iff_lt_mul (Nat.two_pow_pos _), ← Nat.pow_add]
    exact Nat.lt_of_lt_of_le h2 (Nat.pow_le_pow_right (by decide) (by omega))
end FH
end
section
set_option linter.all false
set_option Elab.async false
set_option maxRecDepth 10000
/-! a number's bits: three cases -/
namespace FH
open RvNum RvMach
theorem num_cases {F : Fmt} (a : Nat) : (∃ s, num F a = .nan s) ∨ num F a = .inf (negOf F a) ∨ num F a = .fin (negOf F a) (pM F a) (pE F a) := by
  unfold num pM pE
  by_cases h1 : expoOf F a = 2 ^ F.ebits - 1
  · rw [if_pos h1]
    by_cases h2 : fracOf F a = 0
    · rw [if_pos h2]
      exact .inr (.inl rfl)
    · rw [if_neg h2]
      exact .inl ⟨_, rfl⟩
  · rw [if_neg h1]
    by_cases h2 : expoOf F a = 0
    · rw [if_pos h2, if_pos h2, if_pos h2]
      exact .inr (.inr rfl)
    · rw [if_neg h2, if_neg h2, if_neg h2]
      exact .inr (.inr rfl)
theorem parts_ok {f : Int} (h : okF f) (a : Nat) : pM (fm f) a < 2 ^ 53 ∧ -1074 ≤ pE (fm f) a ∧ pE (fm f) a ≤ 972 := by
  unfold pM pE
  rcases isF3 h with e | e | e <;> rw [e]
  · rw [expS, fraS, fS5, fS8]
    split <;> refine ⟨?_, ?_, ?_⟩ <;> omega
  · rw [expD, fraD, fD5, fD8]
    split <;> refine ⟨?_, ?_, ?_⟩ <;> omega
  · rw [expH, fraH, fH5, fH8]
    split <;> refine ⟨?_, ?_, ?_⟩ <;> omega
theorem b2i_eq1 (b : Bool) : (b2i b = 1) = (b = true) := by cases b <;> simp [b2i]
theorem b2i_eq (b c : Bool) : (b2i b = b2i c) = (b = c) := by cases b <;> cases c <;> simp [b2i]
theorem dec_b2i (b : Bool) : decide (b2i b = 1) = b := by cases b <;> rfl
theorem xor_b2i (b c : Bool) : iXor (b2i b) (b2i c) = b2i (b != c) := by cases b <;> cases c <;> decide
theorem sgb (b : Bool) : sg (b2i b) := by
  cases b
  · exact .inl rfl
  · exact .inr rfl
theorem zmem2 {a b : Int} (ha : 0 ≤ a) (hb : 0 ≤ b) : ∀ x ∈ [a, b], 0 ≤ x := by
  intro x hx
  simp only [List.mem_cons, List.not_mem_nil, or_false] at hx
  rcases hx with rfl | rfl <;> assumption
theorem zmem3 {a b c : Int} (ha : 0 ≤ a) (hb : 0 ≤ b) (hc : 0 ≤ c) : ∀ x ∈ [a, b, c], 0 ≤ x := by
  intro x hx
  simp only [List.mem_cons, List.not_mem_nil, or_false] at hx
  rcases hx with rfl | rfl | rfl <;> assumption
theorem zmem1 {a : Int} (ha : 0 ≤ a) : ∀ x ∈ [a], 0 ≤ x := by
  intro x hx
  simp only [List.mem_cons, List.not_mem_nil, or_false] at hx
  rcases hx with rfl
  assumption
theorem bq {x y : Nat} (h : x = y) : (x == 1) = (y == 1) := by rw [h]
theorem neg_S (a : Nat) : num SINGLE (signed SINGLE (!negOf SINGLE a) (a % SINGLE.signBit)) = opposite (num SINGLE a) := by
  obtain ⟨x, hx⟩ : ∃ x, x = signed SINGLE (!negOf SINGLE a) (a % SINGLE.signBit) := ⟨_, rfl⟩
  rw [← hx]
  unfold signed at hx
  rw [negS, fS2] at hx
  rw [numS, numS]
  have h1 : x / 8388608 % 256 = a / 8388608 % 256 ∧ x % 8388608 = a % 8388608 ∧ (x / 2147483648 % 2 == 1) = !(a / 2147483648 % 2 == 1) := by
    cases q : (a / 2147483648 % 2 == 1) <;> rw [q] at hx <;> simp only [Bool.not_true, Bool.not_false, if_true, Bool.false_eq_true, if_false] at hx <;> simp only [beq_iff_eq, beq_eq_false_iff_ne, ne_eq] at q
    · refine ⟨by omega, by omega, ?_⟩
      rw [show x / 2147483648 % 2 = 1 by omega]
      rfl
    · refine ⟨by omega, by omega, ?_⟩
      rw [show x / 2147483648 % 2 = 0 by omega]
      rfl
  rw [h1.1, h1.2.1, h1.2.2]
  split
  · split <;> rfl
  · split <;> rfl
theorem neg_D (a : Nat) : num DOUBLE (signed DOUBLE (!negOf DOUBLE a) (a % DOUBLE.signBit)) = opposite (num DOUBLE a) := by
  obtain ⟨x, hx⟩ : ∃ x, x = signed DOUBLE (!negOf DOUBLE a) (a % DOUBLE.signBit) := ⟨_, rfl⟩
  rw [← hx]
  unfold signed at hx
  rw [negD, fD2] at hx
  rw [numD, numD]
  have h1 : x / 4503599627370496 % 2048 = a / 4503599627370496 % 2048 ∧ x % 4503599627370496 = a % 4503599627370496 ∧ (x / 9223372036854775808 % 2 == 1) = !(a / 9223372036854775808 % 2 == 1) := by
    cases q : (a / 9223372036854775808 % 2 == 1) <;> rw [q] at hx <;> simp only [Bool.not_true, Bool.not_false, if_true, Bool.false_eq_true, if_false] at hx <;> simp only [beq_iff_eq, beq_eq_false_iff_ne, ne_eq] at q
    · refine ⟨by omega, by omega, ?_⟩
      rw [show x / 9223372036854775808 % 2 = 1 by omega]
      rfl
    · refine ⟨by omega, by omega, ?_⟩
      rw [show x / 9223372036854775808 % 2 = 0 by omega]
      rfl
  rw [h1.1, h1.2.1, h1.2.2]
  split
  · split <;> rfl
  · split <;> rfl
theorem neg_H (a : Nat) : num HALF (signed HALF (!negOf HALF a) (a % HALF.signBit)) = opposite (num HALF a) := by
  obtain ⟨x, hx⟩ : ∃ x, x = signed HALF (!negOf HALF a) (a % HALF.signBit) := ⟨_, rfl⟩
  rw [← hx]
  unfold signed at hx
  rw [negH, fH2] at hx
  rw [numH, numH]
  have h1 : x / 1024 % 32 = a / 1024 % 32 ∧ x % 1024 = a % 1024 ∧ (x / 32768 % 2 == 1) = !(a / 32768 % 2 == 1) := by
    cases q : (a / 32768 % 2 == 1) <;> rw [q] at hx <;> simp only [Bool.not_true, Bool.not_false, if_true, Bool.false_eq_true, if_false] at hx <;> simp only [beq_iff_eq, beq_eq_false_iff_ne, ne_eq] at q
    · refine ⟨by omega, by omega, ?_⟩
      rw [show x / 32768 % 2 = 1 by omega]
      rfl
    · refine ⟨by omega, by omega, ?_⟩
      rw [show x / 32768 % 2 = 0 by omega]
      rfl
  rw [h1.1, h1.2.1, h1.2.2]
  split
  · split <;> rfl
  · split <;> rfl
theorem num_neg {F : Fmt} (h : F = SINGLE ∨ F = DOUBLE ∨ F = HALF) (a : Nat) : num F (signed F (!negOf F a) (a % F.signBit)) = opposite (num F a) := by
  rcases h with rfl | rfl | rfl
  · exact neg_S a
  · exact neg_D a
  · exact neg_H a
/-- a finite number's parts as a sum wants them -/
theorem okP_mk {f : Int} (h : okF f) (a : Nat) : okP [b2i (negOf (fm f) a), (pM (fm f) a : Nat), pE (fm f) a] := by
  obtain ⟨h1, h2, h3⟩ := parts_ok h a
  refine ⟨rfl, sgb _, ⟨Int.natCast_nonneg _, Nat.le_trans (ibits_le h1) (by decide)⟩, ?_, ?_⟩
  · show -2200 ≤ pE (fm f) a
    omega
  · show pE (fm f) a ≤ 2200
    omega
theorem okP_mul {f : Int} (h : okF f) (s : Bool) (a b : Nat) : okP [b2i s, ((pM (fm f) a * pM (fm f) b : Nat) : Int), pE (fm f) a + pE (fm f) b] := by
  obtain ⟨h1, h2, h3⟩ := parts_ok h a
  obtain ⟨g1, g2, g3⟩ := parts_ok h b
  refine ⟨rfl, sgb _, ⟨Int.natCast_nonneg _, Nat.le_trans (ibits_le (k := 106) ?_) (by decide)⟩, ?_, ?_⟩
  · have : pM (fm f) a * pM (fm f) b < 2 ^ 53 * 2 ^ 53 := Nat.mul_lt_mul'' h1 g1
    rw [← Nat.pow_add] at this
    exact this
  · show -2200 ≤ pE (fm f) a + pE (fm f) b
    omega
  · show pE (fm f) a + pE (fm f) b ≤ 2200
    omega
end FH
end
section
set_option linter.all false
set_option Elab.async false
set_option maxRecDepth 10000
namespace FH
open RvNum RvMach
local macro_rules | `(tactic| array_get_dec) => `(tactic| simp only [senv, List.map_cons, List.map_nil, List.length_cons, List.length_nil, Nat.reduceAdd, Nat.reduceSub, List.replicate_zero, List.replicate_succ, List.cons_append, List.nil_append, List.append_nil, List.set_cons_zero, List.set_cons_succ,
  exs, ex, ↓ev_max2, ↓ev_min2, ↓ev_abs, ev, evs, evAnd, evOr, op2, cp2, onInt, onBl, onSeq, onLst, onTup, onMach, onInts, onSome, intsOf, Option.map_some, Option.map_none, getS_0, getS_n, getS_s, setAll, atQ, fromQ, decide_eq_true_eq, Bool.not_eq_true', decide_eq_false_iff_not, Bool.true_eq_false, Bool.false_eq_true, if_true, if_false, ite_true, ite_false, outQ_ok, outQ_flt, and_true, true_and, PV.int.injEq, PV.bl.injEq, PV.tup.injEq, PV.lst.injEq, c0, c1, c2, c3, c4, c5, c6, c7, c8, c9, c10, c11, c12, c13, c14, c15, c16, c17, c18, c19, c20, c21, c22, c23, c24, c25, c26, c27, c28, c29, c30, n31, c32, c33, c34, c35, c36, c37, c38, c39, c40, c41, c42, c43, c44, c45, c46, c47, c48, c49, c50, c51, c52, c53, c54, c55, c56, c57, c58, c59, c60, c61, c62, c63, c64, c65, c67, c68, c69, c70, c71, c72, c73, c74, c75, c76, c77, c78, c79, c80, c81, c82, c83, c84, c85, c86, c87, c88, c89, c90, c91, c92, c93, c94, c95, c96, c97, c98, c99, c100, c101, c102, c103, c104, c105, c106, c107, c108, c109, c110, c111, c112, c113, c114, c115, c116, c117, c118, c119, c120, c121, c122, c123, c124, c125, c126, c127, c128, c129, c130, c131, c132, c133, c134, c135, tc0, tc1, tc2, tc3, tc4, tc5, tc6, tc7, tc8, tc9, tc10, tc11, tc12, tc13, tc14, tc15, tc16, tc17, tc18, tc19, tc20, tc21, tc22, tc23, tc24, tc25, tc26, tc27, tc28, tc29, tc30, tc31, tc32, tc33, tc34, tc35, tc36, tc37, tc38, tc39, tc40, tc41, tc42, tc43, tc44, tt0, tt1, tt2, tt3, tt4, td0, td1])
theorem g36 : Good tb (tb.fn 36) 1 1 k36 := by
  refine gd36 rfl fun F μ f h => ?_
  unfold k36
  array_get_dec
  exact ⟨h, rfl⟩
theorem g37 : Good tb (tb.fn 37) 2 2 k37 := by
  refine gd37 rfl fun F μ f l h => ?_
  unfold k37
  array_get_dec
  refine ⟨h.1, h, ?_⟩
  unfold nans
  split <;> rfl
theorem t2p (a b : Nat) : PV.tup [(a : Int), (b : Int)] = t2 (a, b) := rfl
theorem t2z (a : Nat) : PV.tup [(a : Int), 0] = t2 (a, 0) := rfl
theorem g39 : Good tb (tb.fn 39) 4 4 k39 := by
  refine gd39 rfl fun F μ f m a b h => ?_
  unfold k39
  array_get_dec
  obtain ⟨hf, hm, ha, hb⟩ := h
  obtain ⟨a, rfl⟩ := Int.eq_ofNat_of_zero_le ha
  obtain ⟨b, rfl⟩ := Int.eq_ofNat_of_zero_le hb
  have hl := zmem2 ha hb
  have Pa := okP_mk hf a
  have Pb := okP_mk hf b
  simp only [Int.toNat_natCast, List.map_cons, List.map_nil]
  rcases num_cases (F := fm f) a with ⟨s, e⟩ | e | e <;> rcases num_cases (F := fm f) b with ⟨t, e'⟩ | e' | e' <;>
    simp only [e, e', isNan, isInf, RvNum.add, if_true, if_false, Bool.false_eq_true, hf, ha, hb, hm, and_self, true_and, b2i_eq, dec_b2i, sgb, t2z]
  all_goals first | exact ⟨hl, trivial⟩ | skip
  · by_cases q : negOf (fm f) a = negOf (fm f) b
    · simp [q, RvNum.inf]
    · simp [q]
  · rfl
  · rfl
  · exact ⟨⟨Pa, Pb⟩, by simp [dec_b2i]⟩
theorem g40 : Good tb (tb.fn 40) 4 4 k40 := by
  refine gd40 rfl fun F μ f m a b h => ?_
  unfold k40
  array_get_dec
  obtain ⟨hf, hm, ha, hb⟩ := h
  obtain ⟨b, rfl⟩ := Int.eq_ofNat_of_zero_le hb
  refine ⟨⟨hf, hb⟩, ⟨hf, hm, ha, Int.natCast_nonneg _⟩, ?_⟩
  simp only [Int.toNat_natCast, num_neg (isF3 hf)]
  rfl
theorem g41 : Good tb (tb.fn 41) 3 3 k41 := by
  refine gd41 rfl fun F μ f a b h => ?_
  unfold k41
  array_get_dec
  obtain ⟨hf, ha, hb⟩ := h
  unfold infZ
  refine ⟨⟨hf, ha⟩, ?_⟩
  cases isInf (num (fm f) a.toNat) <;> cases isZero (num (fm f) a.toNat) <;> simp [hf, ha, hb]
theorem g42 : Good tb (tb.fn 42) 3 9 k42 := by
  refine gd42 rfl fun F μ f a b h => ?_
  unfold k42
  array_get_dec
  obtain ⟨hf, ha, hb⟩ := h
  obtain ⟨a, rfl⟩ := Int.eq_ofNat_of_zero_le ha
  obtain ⟨b, rfl⟩ := Int.eq_ofNat_of_zero_le hb
  obtain ⟨h1, _⟩ := parts_ok hf a
  obtain ⟨g1, _⟩ := parts_ok hf b
  have i1 := ibits_le h1
  have i2 := ibits_le g1
  simp only [Int.toNat_natCast, xor_b2i]
  refine ⟨⟨hf, ha⟩, ⟨hf, hb⟩, by omega, ?_⟩
  simp
theorem g44 : Good tb (tb.fn 44) 1 1 k44 := by
  refine gd44 rfl fun F μ f h => ?_
  unfold k44
  array_get_dec
  exact h
theorem g45 : Good tb (tb.fn 45) 2 2 k45 := by
  refine gd45 rfl fun F μ k e h => ?_
  unfold k45
  array_get_dec
  have i2 : ibits 2 = 2 := by decide
  cases e
  · simp only [Bool.false_eq_true, if_false]
    exact ⟨by rw [i2]; omega, trivial⟩
  · simp only [if_true]
    exact ⟨by rw [i2]; omega, by simp⟩

end FH
end
section
set_option linter.all false
set_option Elab.async false
set_option maxRecDepth 10000
namespace FH
open RvNum RvMach
local macro_rules | `(tactic| array_get_dec) => `(tactic| simp only [senv, List.map_cons, List.map_nil, List.length_cons, List.length_nil, Nat.reduceAdd, Nat.reduceSub, List.replicate_zero, List.replicate_succ, List.cons_append, List.nil_append, List.append_nil, List.set_cons_zero, List.set_cons_succ,
  exs, ex, ↓ev_max2, ↓ev_min2, ↓ev_abs, ev, evs, evAnd, evOr, op2, cp2, onInt, onBl, onSeq, onLst, onTup, onMach, onInts, onSome, intsOf, Option.map_some, Option.map_none, getS_0, getS_n, getS_s, setAll, atQ, fromQ, decide_eq_true_eq, Bool.not_eq_true', decide_eq_false_iff_not, Bool.true_eq_false, Bool.false_eq_true, if_true, if_false, ite_true, ite_false, outQ_ok, outQ_flt, and_true, true_and, PV.int.injEq, PV.bl.injEq, PV.tup.injEq, PV.lst.injEq, c0, c1, c2, c3, c4, c5, c6, c7, c8, c9, c10, c11, c12, c13, c14, c15, c16, c17, c18, c19, c20, c21, c22, c23, c24, c25, c26, c27, c28, c29, c30, n31, c32, c33, c34, c35, c36, c37, c38, c39, c40, c41, c42, c43, c44, c45, c46, c47, c48, c49, c50, c51, c52, c53, c54, c55, c56, c57, c58, c59, c60, c61, c62, c63, c64, c65, c67, c68, c69, c70, c71, c72, c73, c74, c75, c76, c77, c78, c79, c80, c81, c82, c83, c84, c85, c86, c87, c88, c89, c90, c91, c92, c93, c94, c95, c96, c97, c98, c99, c100, c101, c102, c103, c104, c105, c106, c107, c108, c109, c110, c111, c112, c113, c114, c115, c116, c117, c118, c119, c120, c121, c122, c123, c124, c125, c126, c127, c128, c129, c130, c131, c132, c133, c134, c135, tc0, tc1, tc2, tc3, tc4, tc5, tc6, tc7, tc8, tc9, tc10, tc11, tc12, tc13, tc14, tc15, tc16, tc17, tc18, tc19, tc20, tc21, tc22, tc23, tc24, tc25, tc26, tc27, tc28, tc29, tc30, tc31, tc32, tc33, tc34, tc35, tc36, tc37, tc38, tc39, tc40, tc41, tc42, tc43, tc44, tt0, tt1, tt2, tt3, tt4, td0, td1])
theorem ibits_pos {n : Nat} (h : n ≠ 0) : ibits (n : Int) = n.log2 + 1 := by rw [ibits_nat, if_neg h]
theorem pow_nat (n : Nat) : (2 : Int) ^ n = ((2 ^ n : Nat) : Int) := by simp
theorem shr_nat (n d : Nat) : (n : Int) / 2 ^ d = ((n / 2 ^ d : Nat) : Int) := by simp
theorem shl_nat (n d : Nat) : (n : Int) * 2 ^ d = ((n * 2 ^ d : Nat) : Int) := by simp
theorem ibits_div {n d k : Nat} (h : ibits (n : Int) ≤ k) : ibits ((n / d : Nat) : Int) ≤ k := ibits_le (Nat.lt_of_le_of_lt (Nat.div_le_self _ _) (ibits_lt h))
theorem ibits_mono {n m k : Nat} (h : ibits (n : Int) ≤ k) (q : m ≤ n) : ibits (m : Int) ≤ k := ibits_le (Nat.lt_of_le_of_lt q (ibits_lt h))
theorem ibits_1 : ibits 1 = 1 := by decide
theorem g31 : Good tb (tb.fn 31) 4 6 k31 := by
  refine gd31 rfl fun F μ m s n d h => ?_
  unfold k31
  array_get_dec
  obtain ⟨hm, hs, ⟨hn0, hn⟩, hd⟩ := h
  obtain ⟨n, rfl⟩ := Int.eq_ofNat_of_zero_le hn0
  simp only [Int.toNat_natCast]
  by_cases c : d ≤ 0
  · rw [if_pos c]
    refine ⟨⟨by omega, by omega⟩, ?_⟩
    rw [ratioAt_one, if_pos (by omega), rounded_0, shl_nat]
    congr 3
    omega
  · rw [if_neg c]
    obtain ⟨d, rfl⟩ := Int.eq_ofNat_of_zero_le (show 0 ≤ d by omega)
    have er := ratioAt_one n (-(d : Int)) 0
    rw [if_neg (by omega), show (0 - -(d : Int)).toNat = d by omega] at er
    rw [er]
    simp only [Int.toNat_natCast, shr_nat, shl_nat]
    have q1 := ibits_div (d := 2 ^ d) hn
    have rest : (n : Int) - ((n / 2 ^ d * 2 ^ d : Nat) : Int) = ((n % 2 ^ d : Nat) : Int) := by
      have := Nat.div_add_mod n (2 ^ d)
      rw [Nat.mul_comm] at this
      omega
    rw [rest]
    refine ⟨by omega, ⟨by omega, by omega⟩, ?_⟩
    have hp : (2 : Nat) ^ d = 2 * 2 ^ (d - 1) := by
      obtain ⟨e, rfl⟩ : ∃ e, d = e + 1 := ⟨d - 1, by omega⟩
      rw [Nat.add_sub_cancel, Nat.pow_succ, Nat.mul_comm]
    have mid : (1 : Int) * 2 ^ ((d : Int) - 1).toNat = ((2 ^ (d - 1) : Nat) : Int) := by
      rw [show ((d : Int) - 1).toNat = d - 1 by omega]
      simp
    have hlt : n % 2 ^ d < 2 ^ d := Nat.mod_lt _ (Nat.two_pow_pos d)
    by_cases r0 : n % 2 ^ d = 0
    · rw [if_neg (by omega), r0]
      have : restOf 0 (2 ^ d) = 0 := rfl
      rw [this, rounded_0]
    · rw [if_pos (by omega)]
      refine ⟨⟨by omega, by rw [ibits_1]; omega⟩, Int.natCast_nonneg _, ?_⟩
      have G := grow_ok (kept := n / 2 ^ d) (r := n % 2 ^ d) (mid := 2 ^ (d - 1)) hm hs (Nat.pos_of_ne_zero r0) (by rw [← hp]; exact hlt)
      rw [← hp] at G
      rw [G, mid]
      split <;> simp
theorem g32 : Good tb (tb.fn 32) 2 2 k32 := by
  refine gd32 rfl fun F μ n d h => ?_
  unfold k32
  array_get_dec
  obtain ⟨⟨hn0, hn⟩, hd⟩ := h
  obtain ⟨n, rfl⟩ := Int.eq_ofNat_of_zero_le hn0
  simp only [Int.toNat_natCast]
  by_cases c : d ≤ 0
  · rw [if_pos c]
    simp only [ratioAt_one]
    rw [if_pos (by omega)]
    rfl
  · rw [if_neg c]
    obtain ⟨d, rfl⟩ := Int.eq_ofNat_of_zero_le (show 0 ≤ d by omega)
    simp only [ratioAt_one]
    rw [if_neg (by omega), show (0 - -(d : Int)).toNat = d by omega]
    simp only [Int.toNat_natCast, shr_nat, shl_nat]
    have q1 := ibits_div (d := 2 ^ d) hn
    refine ⟨by omega, ⟨by omega, by omega⟩, ?_⟩
    simp only [decide_eq_decide, restOf_0]
    have := Nat.div_add_mod n (2 ^ d)
    rw [Nat.mul_comm] at this
    omega
theorem IsF.unit_eq {F : Fmt} (h : IsF F) : F.unit = 1 - F.bias - F.fbits := h.un
theorem g33 : Good tb (tb.fn 33) 5 6 k33 := by
  refine gd33 rfl fun F μ f m s n k h => ?_
  unfold k33
  array_get_dec
  obtain ⟨hf, hm, hs, ⟨hn0, hn⟩, hk⟩ := h
  have H := isF hf
  obtain ⟨n, rfl⟩ := Int.eq_ofNat_of_zero_le (Int.le_of_lt hn0)
  have n0 : n ≠ 0 := by omega
  simp only [Int.toNat_natCast]
  have hb := ibits_pos n0
  have h1 := H.f1
  have h2 := H.f2
  refine ⟨hf, ⟨hm, hs, ⟨Int.natCast_nonneg _, by omega⟩, by omega⟩, fun K hK => ⟨hf, ?_⟩⟩
  rw [ratio_one n n0]
  unfold tiny
  simp only [decide_eq_decide]
  have eg : (((n.log2 + 1 : Nat) : Int) - 1 + k - ((fm f).fbits : Int)) = (n.log2 : Int) + k + 1 - 1 - (fm f).fbits := by omega
  rw [hb, eg] at hK
  rw [hb, eg]
  generalize hg : (n.log2 : Int) + k + 1 - 1 - (fm f).fbits = g at *
  have t := top_bits n0 (fm f).fbits k g (by omega)
  rw [show -(g - k) = k - g by omega, ← ratioAt_sub] at hK
  have r := rounded_le m.toNat (decide (s = 1)) (ratioAt n 1 k g)
  generalize RvNum.rounded m.toNat (decide (s = 1)) (ratioAt n 1 k g) = R at *
  have p := Nat.two_pow_pos (fm f).fbits
  have R0 : R ≠ 0 := by omega
  rw [hK, ibits_pos R0]
  omega
theorem g34 : Good tb (tb.fn 34) 3 4 k34 := by
  refine gd34 rfl fun F μ f m s h => ?_
  unfold k34
  array_get_dec
  obtain ⟨hf, hm, hs⟩ := h
  have h5 : m = 0 ∨ m = 1 ∨ m = 2 ∨ m = 3 ∨ m = 4 := by
    have := hm.1
    have := hm.2
    omega
  have o5 : iOr 4 1 = 5 := by decide
  unfold beyond
  rcases h5 with rfl | rfl | rfl | rfl | rfl <;> rcases hs with rfl | rfl <;> simp [hf, sg, o5, t2]

theorem t2_mk (a b : Nat) : t2 (a, b) = .tup [(a : Int), (b : Int)] := rfl
/-- the overflow's test -/
theorem over_ok {F : Fmt} (H : IsF F) (hi : F.infinity = (2 ^ F.ebits - 1) * 2 ^ F.fbits) {K : Nat} {g : Int} (hg : F.unit ≤ g) (h0 : K ≤ 2 ^ (F.fbits + 1)) (h1 : F.unit < g → 2 ^ F.fbits ≤ K) :
    ((ibits (K : Int) : Nat) : Int) + g > F.bias + 1 ↔ F.infinity ≤ magnitude F K g := by
  have e1 := H.e1
  have e2 := H.e2
  have f1 := H.f1
  have f2 := H.f2
  have bb := H.bb
  have un := H.un
  have pw : (2 : Nat) ^ F.ebits = 2 * 2 ^ (F.ebits - 1) := by
    obtain ⟨e, he⟩ : ∃ e, F.ebits = e + 1 := ⟨F.ebits - 1, by omega⟩
    rw [he, Nat.add_sub_cancel, Nat.pow_succ, Nat.mul_comm]
  obtain ⟨B, hB⟩ : ∃ B : Nat, F.bias = B := ⟨F.bias.toNat, by have := H.b1; omega⟩
  have hbb : 2 ^ (F.ebits - 1) = B + 1 := by
    have z : ((2 ^ (F.ebits - 1) : Nat) : Int) = (B : Int) + 1 := by
      rw [← hB, bb]
      simp
    omega
  have b1 := H.b1
  obtain ⟨t, ht⟩ : ∃ t : Nat, g - F.unit = t := ⟨(g - F.unit).toNat, by omega⟩
  unfold magnitude
  rw [hi, pw, hbb, ht, Int.toNat_natCast]
  have P := Nat.two_pow_pos F.fbits
  have p1 : 2 ^ (F.fbits + 1) = 2 * 2 ^ F.fbits := by rw [Nat.pow_succ, Nat.mul_comm]
  have q1 : 2 * (B + 1) - 1 = 2 * B + 1 := by omega
  rw [q1]
  by_cases c : 2 ^ F.fbits ≤ K
  · by_cases d : K = 2 ^ (F.fbits + 1)
    · have L : ibits (K : Int) = F.fbits + 2 := by
        rw [d, ibits_pos (Nat.ne_of_gt (Nat.two_pow_pos _)), Nat.log2_two_pow]
      rw [L, d, p1]
      have k1 : (2 * B + 1) * 2 ^ F.fbits ≤ t * 2 ^ F.fbits + 2 * 2 ^ F.fbits ↔ 2 * B + 1 ≤ t + 2 := by
        rw [← Nat.add_mul]
        exact Nat.mul_le_mul_right_iff P
      rw [k1]
      omega
    · have L : ibits (K : Int) = F.fbits + 1 := by
        rw [ibits_pos (by omega), log2_eq c (by omega)]
      rw [L]
      have k1 : (2 * B + 1) * 2 ^ F.fbits ≤ t * 2 ^ F.fbits + K ↔ 2 * B + 1 ≤ t + 1 := by
        constructor
        · intro z
          have z2 : (2 * B + 1) * 2 ^ F.fbits < (t + 2) * 2 ^ F.fbits := by
            rw [Nat.add_mul t 2]
            omega
          have := Nat.lt_of_mul_lt_mul_right z2
          omega
        · intro z
          have z2 := Nat.mul_le_mul_right (2 ^ F.fbits) z
          rw [Nat.add_mul t 1] at z2
          omega
      rw [k1]
      omega
  · have gu : g = F.unit := by
      by_cases z : F.unit < g
      · exact absurd (h1 z) c
      · omega
    have t0 : t = 0 := by omega
    have L : ibits (K : Int) ≤ F.fbits := ibits_le (by omega)
    rw [t0, Nat.zero_mul, Nat.zero_add]
    constructor
    · intro z
      omega
    · intro z
      have z2 : 1 * 2 ^ F.fbits ≤ (2 * B + 1) * 2 ^ F.fbits := Nat.mul_le_mul_right _ (by omega)
      omega
theorem inf_eq (F : Fmt) : F.infinity = (2 ^ F.ebits - 1) * 2 ^ F.fbits := rfl
theorem g35 : Good tb (tb.fn 35) 5 10 k35 := by
  refine gd35 rfl fun F μ f m s n k h => ?_
  unfold k35
  array_get_dec
  have hh := h
  obtain ⟨hf, hm, hs, ⟨hn0, hn⟩, hk⟩ := h
  have H := isF hf
  obtain ⟨n, rfl⟩ := Int.eq_ofNat_of_zero_le (Int.le_of_lt hn0)
  have n0 : n ≠ 0 := by omega
  have hb := ibits_pos n0
  have h1 := H.f1
  have h2 := H.f2
  have un := H.un
  have b1 := H.b1
  have b2 := H.b2
  refine ⟨hf, hf, fun g hg => ?_⟩
  rw [hb, ← un] at hg
  have pg : place (fm f) (ratio n 1 k) = g := by
    rw [ratio_one n n0, hg]
    unfold place
    dsimp only
    omega
  have gl : (n.log2 : Int) + k - (fm f).fbits ≤ g := by omega
  have gu : (fm f).unit ≤ g := by omega
  have gm : g = (n.log2 : Int) + k - (fm f).fbits ∨ g = (fm f).unit := by omega
  refine ⟨⟨hm, hs, ⟨by omega, by omega⟩, by omega⟩, fun K hK => ⟨hf, ?_⟩⟩
  rw [show -(g - k) = k - g by omega, ← ratioAt_sub, Int.toNat_natCast] at hK
  have rl := rounded_le m.toNat (decide (s = 1)) (ratioAt n 1 k g)
  have spec : RvNum.round (fm f) m.toNat (decide (s = 1)) (ratio n 1 k) = if (fm f).infinity ≤ magnitude (fm f) (RvNum.rounded m.toNat (decide (s = 1)) (ratioAt n 1 k g)) g then (beyond (fm f) m.toNat (decide (s = 1)), OF + NX)
      else (signed (fm f) (decide (s = 1)) (magnitude (fm f) (RvNum.rounded m.toNat (decide (s = 1)) (ratioAt n 1 k g)) g), if (ratioAt n 1 k g).2 = 0 then 0 else if tiny (fm f) m.toNat (decide (s = 1)) (ratio n 1 k) = true then UF + NX else NX) := by
    unfold RvNum.round
    rw [pg]
    have ea : (ratio n 1 k).at_ = ratioAt n 1 k := by rw [ratio_one n n0]
    simp only [ea]
  rw [Int.toNat_natCast, spec]
  have inex : (ratioAt n 1 (-(g - k)) 0) = ratioAt n 1 k g := by rw [show -(g - k) = k - g by omega, ← ratioAt_sub]
  rw [inex]
  generalize RvNum.rounded m.toNat (decide (s = 1)) (ratioAt n 1 k g) = R at *
  have P := Nat.two_pow_pos (fm f).fbits
  have hR1 : R ≤ 2 ^ ((fm f).fbits + 1) := by
    rcases gm with q | q
    · have := (top_bits n0 (fm f).fbits k g (by omega)).2
      omega
    · by_cases q2 : (n.log2 : Int) + k - (fm f).fbits = g
      · have := (top_bits n0 (fm f).fbits k g q2).2
        omega
      · have := low_bits n0 (fm f).fbits k g (by omega)
        have p1 : 2 ^ ((fm f).fbits + 1) = 2 * 2 ^ (fm f).fbits := by rw [Nat.pow_succ, Nat.mul_comm]
        omega
  have hR2 : (fm f).unit < g → 2 ^ (fm f).fbits ≤ R := fun q => by
    have := (top_bits n0 (fm f).fbits k g (by omega)).1
    omega
  have ov := over_ok H (inf_eq _) gu hR1 hR2
  have bK : ibits (R : Int) ≤ (fm f).fbits + 2 := ibits_le (by
    have p1 : 2 ^ ((fm f).fbits + 2) = 2 * 2 ^ ((fm f).fbits + 1) := by rw [Nat.pow_succ, Nat.mul_comm]
    have := Nat.two_pow_pos ((fm f).fbits + 1)
    omega)
  subst hK
  by_cases c : (fm f).infinity ≤ magnitude (fm f) R g
  · rw [if_pos (ov.mpr c), if_pos c]
    exact ⟨⟨hf, hm, hs⟩, rfl⟩
  · rw [if_neg (fun z => c (ov.mp z)), if_neg c]
    obtain ⟨t, ht⟩ : ∃ t : Nat, g - (fm f).unit = t := ⟨(g - (fm f).unit).toNat, by omega⟩
    rw [← un, ht]
    have mg : ((t : Int) * 2 ^ (((fm f).fbits : Int)).toNat + (R : Int)) = ((magnitude (fm f) R g : Nat) : Int) := by
      unfold magnitude
      rw [ht]
      simp
    rw [mg]
    simp only [Int.toNat_natCast]
    have tb : ibits (t : Int) ≤ 20 := ibits_le (by omega)
    refine ⟨⟨by omega, by omega⟩, ⟨hf, hs, Int.natCast_nonneg _⟩, ⟨⟨by omega, by omega⟩, by omega⟩, ?_⟩
    by_cases c2 : (ratioAt n 1 k g).2 = 0
    · rw [if_pos c2, if_pos c2]
      rfl
    · rw [if_neg c2, if_neg c2]
      refine ⟨hh, ?_⟩
      have o3 : iOr 2 1 = 3 := by decide
      split
      · rename_i q
        rw [o3]
        rfl
      · rename_i q
        rfl

end FH
end
section
set_option linter.all false
set_option Elab.async false
set_option maxRecDepth 10000
namespace FH
open RvNum RvMach
local macro_rules | `(tactic| array_get_dec) => `(tactic| simp only [senv, List.map_cons, List.map_nil, List.length_cons, List.length_nil, Nat.reduceAdd, Nat.reduceSub, List.replicate_zero, List.replicate_succ, List.cons_append, List.nil_append, List.append_nil, List.set_cons_zero, List.set_cons_succ,
  exs, ex, ↓ev_max2, ↓ev_min2, ↓ev_abs, ev, evs, evAnd, evOr, op2, cp2, onInt, onBl, onSeq, onLst, onTup, onMach, onInts, onSome, intsOf, Option.map_some, Option.map_none, getS_0, getS_n, getS_s, setAll, atQ, fromQ, decide_eq_true_eq, Bool.not_eq_true', decide_eq_false_iff_not, Bool.true_eq_false, Bool.false_eq_true, if_true, if_false, ite_true, ite_false, outQ_ok, outQ_flt, and_true, true_and, PV.int.injEq, PV.bl.injEq, PV.tup.injEq, PV.lst.injEq, c0, c1, c2, c3, c4, c5, c6, c7, c8, c9, c10, c11, c12, c13, c14, c15, c16, c17, c18, c19, c20, c21, c22, c23, c24, c25, c26, c27, c28, c29, c30, n31, c32, c33, c34, c35, c36, c37, c38, c39, c40, c41, c42, c43, c44, c45, c46, c47, c48, c49, c50, c51, c52, c53, c54, c55, c56, c57, c58, c59, c60, c61, c62, c63, c64, c65, c67, c68, c69, c70, c71, c72, c73, c74, c75, c76, c77, c78, c79, c80, c81, c82, c83, c84, c85, c86, c87, c88, c89, c90, c91, c92, c93, c94, c95, c96, c97, c98, c99, c100, c101, c102, c103, c104, c105, c106, c107, c108, c109, c110, c111, c112, c113, c114, c115, c116, c117, c118, c119, c120, c121, c122, c123, c124, c125, c126, c127, c128, c129, c130, c131, c132, c133, c134, c135, tc0, tc1, tc2, tc3, tc4, tc5, tc6, tc7, tc8, tc9, tc10, tc11, tc12, tc13, tc14, tc15, tc16, tc17, tc18, tc19, tc20, tc21, tc22, tc23, tc24, tc25, tc26, tc27, tc28, tc29, tc30, tc31, tc32, tc33, tc34, tc35, tc36, tc37, tc38, tc39, tc40, tc41, tc42, tc43, tc44, tt0, tt1, tt2, tt3, tt4, td0, td1])
theorem op_sgn {f : Int} (hf : okF f) (a b : Nat) : RvNum.op f.toNat 11 0 a b 0 = (signed (fm f) (negOf (fm f) b) (a % (fm f).signBit), 0) ∧ RvNum.op f.toNat 12 0 a b 0 = (signed (fm f) (!negOf (fm f) b) (a % (fm f).signBit), 0) ∧
    RvNum.op f.toNat 13 0 a b 0 = (signed (fm f) (negOf (fm f) a != negOf (fm f) b) (a % (fm f).signBit), 0) := by
  have H := isF3 hf
  refine ⟨?_, ?_, ?_⟩
  · show (fsgnj (fm f) (a % 2 ^ (fm f).width) (b % 2 ^ (fm f).width), 0) = _
    unfold fsgnj
    rw [neg_mod H, sz_mod H]
  · show (fsgnjn (fm f) (a % 2 ^ (fm f).width) (b % 2 ^ (fm f).width), 0) = _
    unfold fsgnjn
    rw [neg_mod H, sz_mod H]
  · show (fsgnjx (fm f) (a % 2 ^ (fm f).width) (b % 2 ^ (fm f).width), 0) = _
    unfold fsgnjx
    rw [neg_mod H, neg_mod H, sz_mod H]
theorem g24 : Good tb (tb.fn 24) 4 5 k24 := by
  refine gd24 rfl fun F μ f o a b h => ?_
  unfold k24
  array_get_dec
  obtain ⟨hf, ho, ha, hb⟩ := h
  obtain ⟨a, rfl⟩ := Int.eq_ofNat_of_zero_le ha
  obtain ⟨b, rfl⟩ := Int.eq_ofNat_of_zero_le hb
  obtain ⟨o1, o2, o3⟩ := op_sgn hf a b
  have ho3 : o = 11 ∨ o = 12 ∨ o = 13 := by omega
  refine ⟨⟨hf, hb⟩, ?_⟩
  have d1 : ∀ x : Bool, decide (1 - b2i x = 1) = !x := fun x => by cases x <;> rfl
  have s1 : ∀ x : Bool, sg (1 - b2i x) := fun x => by
    cases x
    · exact .inr rfl
    · exact .inl rfl
  simp only [Int.toNat_natCast]
  rcases ho3 with rfl | rfl | rfl
  · rw [show (11 : Int).toNat = 11 from rfl, o1]
    simp only [dec_b2i, t2z]
    exact ⟨⟨hf, ha⟩, ⟨hf, sgb _, Int.natCast_nonneg _⟩, trivial⟩
  · rw [show (12 : Int).toNat = 12 from rfl, o2]
    simp only [d1, t2z]
    exact ⟨⟨hf, ha⟩, ⟨hf, s1 _, Int.natCast_nonneg _⟩, trivial⟩
  · rw [show (13 : Int).toNat = 13 from rfl, o3]
    simp only [xor_b2i, dec_b2i, t2z]
    exact ⟨⟨hf, ha⟩, ⟨hf, ha⟩, ⟨hf, sgb _, Int.natCast_nonneg _⟩, trivial⟩
/-- signed sizes -/
theorem sgn_mul {s : Int} (hs : sg s) (x : Nat) : (1 - 2 * s) * (x : Int) = if decide (s = 1) = true then -(x : Int) else (x : Int) := by
  rcases hs with rfl | rfl <;> simp
theorem ib_s {s : Int} (hs : sg s) : ibits s ≤ 1 ∧ ibits (1 - 2 * s) ≤ 1 := by
  rcases hs with rfl | rfl <;> decide
theorem if3 {p q r : Prop} [Decidable p] [Decidable q] [Decidable r] {A B : Prop} (h : ¬ (p ∧ q ∧ r)) : (if p then if q then if r then A else B else B else B) = B := by
  by_cases hp : p
  · by_cases hq : q
    · by_cases hr : r
      · exact absurd ⟨hp, hq, hr⟩ h
      · rw [if_pos hp, if_pos hq, if_neg hr]
    · rw [if_pos hp, if_neg hq]
  · rw [if_neg hp]
theorem ib_shl {n i a k : Nat} (h : ibits (n : Int) ≤ a) (hi : i ≤ k) : ibits ((n * 2 ^ i : Nat) : Int) ≤ a + k := by
  refine ibits_le ?_
  rw [Nat.pow_add]
  exact Nat.mul_lt_mul_of_lt_of_le (ibits_lt h) (Nat.pow_le_pow_right (by decide) hi) (Nat.two_pow_pos _)
theorem dec_sg {s t : Int} (hs : sg s) (ht : sg t) : (decide (s = 1) = decide (t = 1)) ↔ s = t := by
  rcases hs with rfl | rfl <;> rcases ht with rfl | rfl <;> decide
theorem g38 : Good tb (tb.fn 38) 4 12 k38 := by
  refine gd38 rfl fun F μ f m x y h => ?_
  unfold k38
  array_get_dec
  obtain ⟨hf, hm, hx, hy⟩ := h
  obtain ⟨lx, sx, nx, kx⟩ := hx
  obtain ⟨ly, sy, ny, ky⟩ := hy
  obtain ⟨s, n, k, rfl⟩ : ∃ s n k, x = [s, n, k] := by
    match x, lx with
    | [s, n, k], _ => exact ⟨_, _, _, rfl⟩
  obtain ⟨t, p, j, rfl⟩ : ∃ s n k, y = [s, n, k] := by
    match y, ly with
    | [s, n, k], _ => exact ⟨_, _, _, rfl⟩
  replace sx : sg s := sx
  replace sy : sg t := sy
  replace nx : 0 ≤ n ∧ ibits n ≤ 120 := nx
  replace ny : 0 ≤ p ∧ ibits p ≤ 120 := ny
  replace kx : -2200 ≤ k ∧ k ≤ 2200 := kx
  replace ky : -2200 ≤ j ∧ j ≤ 2200 := ky
  obtain ⟨n, rfl⟩ := Int.eq_ofNat_of_zero_le nx.1
  obtain ⟨p, rfl⟩ := Int.eq_ofNat_of_zero_le ny.1
  array_get_dec
  simp only [List.getD_cons_zero, List.getD_cons_succ, Int.toNat_natCast]
  obtain ⟨a1, a2⟩ := ib_s sx
  obtain ⟨b1, b2⟩ := ib_s sy
  have i2 : ibits 2 = 2 := by decide
  by_cases c : (n : Int) = 0 ∧ (p : Int) = 0 ∧ s = t
  · obtain ⟨c1, c2, c3⟩ := c
    have c1 : n = 0 := by omega
    have c2 : p = 0 := by omega
    subst c1 c2 c3
    rw [if_pos (show ((0 : Nat) : Int) = 0 from rfl), if_pos (show ((0 : Nat) : Int) = 0 from rfl), if_pos rfl]
    refine ⟨⟨hf, sx⟩, ?_⟩
    have : RvNum.sum (fm f) m.toNat (decide (s = 1)) 0 k (decide (s = 1)) 0 j = (signed (fm f) (decide (s = 1)) 0, 0) := by
      unfold RvNum.sum whole
      simp [zero]
    rw [this]
    rfl
  · rw [if3 c]
    intro w hw
    subst hw
    have wk : min k j ≤ k := Int.min_le_left _ _
    have wj : min k j ≤ j := Int.min_le_right _ _
    have w1 : -2200 ≤ min k j := by omega
    have w2 : min k j ≤ 2200 := by omega
    have hsum : RvNum.sum (fm f) m.toNat (decide (s = 1)) n k (decide (t = 1)) p j = if (1 - 2 * s) * ((n * 2 ^ (k - min k j).toNat : Nat) : Int) + (1 - 2 * t) * ((p * 2 ^ (j - min k j).toNat : Nat) : Int) = 0 then zero (fm f) (if decide (s = 1) = decide (t = 1) then decide (s = 1) else m.toNat == 2)
        else round (fm f) m.toNat (decide ((1 - 2 * s) * ((n * 2 ^ (k - min k j).toNat : Nat) : Int) + (1 - 2 * t) * ((p * 2 ^ (j - min k j).toNat : Nat) : Int) < 0)) (ratio ((1 - 2 * s) * ((n * 2 ^ (k - min k j).toNat : Nat) : Int) + (1 - 2 * t) * ((p * 2 ^ (j - min k j).toNat : Nat) : Int)).natAbs 1 (min k j)) := by
      rw [sgn_mul sx, sgn_mul sy]
      rfl
    rw [hsum]
    simp only [shl_nat]
    have iA := ib_shl (i := (k - min k j).toNat) (k := 4400) nx.2 (by omega)
    have iB := ib_shl (i := (j - min k j).toNat) (k := 4400) ny.2 (by omega)
    have pA : n * 2 ^ (k - min k j).toNat = 0 → n = 0 := fun z => by
      rcases Nat.mul_eq_zero.mp z with z | z
      · exact z
      · exact absurd z (Nat.ne_of_gt (Nat.two_pow_pos _))
    have pB : p * 2 ^ (j - min k j).toNat = 0 → p = 0 := fun z => by
      rcases Nat.mul_eq_zero.mp z with z | z
      · exact z
      · exact absurd z (Nat.ne_of_gt (Nat.two_pow_pos _))
    generalize n * 2 ^ (k - min k j).toNat = A at *
    generalize p * 2 ^ (j - min k j).toNat = B at *
    generalize min k j = w at *
    refine ⟨by omega, ⟨by omega, by omega⟩, by omega, by omega, ⟨by omega, by omega⟩, by omega, ?_⟩
    have zb : ((1 - 2 * s) * (A : Int) + (1 - 2 * t) * (B : Int)).natAbs ≤ A + B := by
      rcases sx with rfl | rfl <;> rcases sy with rfl | rfl <;> omega
    have zz : (1 - 2 * s) * (A : Int) + (1 - 2 * t) * (B : Int) = 0 → ¬ (s = t) := fun z e => by
      refine c ⟨?_, ?_, e⟩
      · have : A = 0 := by
          rcases sx with rfl | rfl <;> rcases sy with rfl | rfl <;> omega
        rw [pA this]
        rfl
      · have : B = 0 := by
          rcases sx with rfl | rfl <;> rcases sy with rfl | rfl <;> omega
        rw [pB this]
        rfl
    generalize hz : (1 - 2 * s) * (A : Int) + (1 - 2 * t) * (B : Int) = z at *
    by_cases z0 : z = 0
    · rw [if_pos z0, if_pos z0, if_neg (fun q => zz z0 ((dec_sg sx sy).mp q))]
      have hm5 : m = 0 ∨ m = 1 ∨ m = 2 ∨ m = 3 ∨ m = 4 := by
        have := hm.1
        have := hm.2
        omega
      rcases hm5 with rfl | rfl | rfl | rfl | rfl <;> simp [hf, sg, t2, zero]
    · rw [if_neg z0, if_neg z0]
      have lt : z.natAbs < 2 ^ 4521 := by
        have := ibits_lt iA
        have := ibits_lt iB
        rw [show (2 : Nat) ^ 4521 = 2 ^ (120 + 4400) + 2 ^ (120 + 4400) by rw [← Nat.two_mul, ← Nat.pow_succ']]
        omega
      have il := ibits_le lt
      by_cases zn : z < 0
      · rw [if_pos zn, decide_eq_true zn]
        intro v hv
        subst hv
        exact ⟨⟨hf, hm, .inr rfl, ⟨by omega, by omega⟩, by omega, by omega⟩, rfl⟩
      · rw [if_neg zn, decide_eq_false zn]
        intro v hv
        subst hv
        exact ⟨⟨hf, hm, .inl rfl, ⟨by omega, by omega⟩, by omega, by omega⟩, rfl⟩

end FH
end
section
set_option linter.all false
set_option Elab.async false
/-! a quotient, a root told by its leading bits and one more -/
namespace FH
open RvNum RvMach
def frac (n d : Nat) : Nat × Rest := (n / d, restOf (n % d) d)
theorem restOf_scale {r d c : Nat} (hc : 0 < c) : restOf (r * c) (d * c) = restOf r d := by
  have e1 : (r * c = 0) = (r = 0) := propext (by
    rw [Nat.mul_eq_zero]
    omega)
  have e2 : (2 * (r * c) < d * c) = (2 * r < d) := propext (by
    rw [← Nat.mul_assoc]
    exact Nat.mul_lt_mul_right hc)
  have e3 : (2 * (r * c) = d * c) = (2 * r = d) := propext (by
    rw [← Nat.mul_assoc]
    exact Nat.mul_right_cancel_iff hc)
  unfold restOf
  simp only [e1, e2, e3]
theorem frac_scale {n d c : Nat} (hc : 0 < c) : frac (n * c) (d * c) = frac n d := by
  unfold frac
  rw [Nat.mul_div_mul_right _ _ hc, Nat.mul_mod_mul_right, restOf_scale hc]
theorem frac_cross {n d n' d' : Nat} (h : n * d' = n' * d) (hd : 0 < d) (hd' : 0 < d') : frac n d = frac n' d' := by
  rw [← frac_scale (n := n) (d := d) hd', h, Nat.mul_comm d d', frac_scale hd]
theorem ratioAt_frac (a b : Nat) (s k : Int) : ratioAt a b s k = frac (a * 2 ^ (s - k).toNat) (b * 2 ^ (k - s).toNat) := rfl
def sticky (q : Nat) (x : Bool) : Nat := if x = true then 2 * q else 2 * q + 1
theorem sticky_log {q : Nat} (h : q ≠ 0) (x : Bool) : (sticky q x).log2 = q.log2 + 1 ∧ sticky q x ≠ 0 := by
  obtain ⟨h1, h2⟩ := log2_self h
  have p1 : 2 ^ (q.log2 + 1) = 2 * 2 ^ q.log2 := by rw [Nat.pow_succ, Nat.mul_comm]
  have p2 : 2 ^ (q.log2 + 1 + 1) = 2 * 2 ^ (q.log2 + 1) := by rw [Nat.pow_succ, Nat.mul_comm]
  unfold sticky
  cases x
  · exact ⟨log2_eq (by simp only [Bool.false_eq_true, if_false]; omega) (by simp only [Bool.false_eq_true, if_false]; omega), by simp⟩
  · exact ⟨log2_eq (by simp only [if_true]; omega) (by simp only [if_true]; omega), by simp only [if_true]; omega⟩
/-- the rest of the bits and one more -/
theorem sticky_frac (q G : Nat) (hG : 0 < G) (x : Bool) : frac (sticky q x) (4 * G) = (q / (2 * G), if q % (2 * G) = 0 ∧ x = true then 0 else if q % (2 * G) < G then 1 else if q % (2 * G) = G ∧ x = true then 2 else 3) := by
  have hu : q % (2 * G) < 2 * G := Nat.mod_lt _ (by omega)
  have hq := Nat.div_add_mod q (2 * G)
  generalize q % (2 * G) = u at *
  generalize q / (2 * G) = Q at *
  have hM : sticky q x = (4 * G) * Q + (if x = true then 2 * u else 2 * u + 1) := by
    unfold sticky
    have e : 4 * G * Q = 2 * (2 * G * Q) := by rw [← Nat.mul_assoc, ← Nat.mul_assoc]
    rw [e]
    cases x <;> simp <;> omega
  have lt : (if x = true then 2 * u else 2 * u + 1) < 4 * G := by split <;> omega
  unfold frac
  have d1 : sticky q x / (4 * G) = Q := by
    rw [hM, Nat.mul_add_div (by omega), Nat.div_eq_of_lt lt, Nat.add_zero]
  have d2 : sticky q x % (4 * G) = (if x = true then 2 * u else 2 * u + 1) := by
    rw [hM, Nat.mul_add_mod, Nat.mod_eq_of_lt lt]
  rw [d1, d2]
  congr 1
  unfold restOf
  cases x
  · simp only [Bool.false_eq_true, if_false, and_false]
    rw [if_neg (by omega)]
    by_cases c : u < G
    · rw [if_pos c, if_pos (by omega)]
    · rw [if_neg c, if_neg (by omega), if_neg (by omega)]
  · simp only [if_true, and_true]
    by_cases z : u = 0
    · rw [if_pos z, if_pos (by omega)]
    · rw [if_neg z, if_neg (by omega)]
      by_cases c : u < G
      · rw [if_pos c, if_pos (by omega)]
      · rw [if_neg c, if_neg (by omega)]
        by_cases c2 : u = G
        · rw [if_pos c2, if_pos (by omega)]
        · rw [if_neg c2, if_neg (by omega)]
theorem quot_frac (N b G : Nat) (hb : 0 < b) (hG : 0 < G) : frac (2 * N) (b * (4 * G)) = frac (sticky (N / b) (decide (N % b = 0))) (4 * G) := by
  rw [sticky_frac _ _ hG]
  have hr : N % b < b := Nat.mod_lt _ hb
  have hN := Nat.div_add_mod N b
  generalize N % b = r at *
  generalize N / b = q at *
  have hu : q % (2 * G) < 2 * G := Nat.mod_lt _ (by omega)
  have hq := Nat.div_add_mod q (2 * G)
  generalize q % (2 * G) = u at *
  generalize q / (2 * G) = Q at *
  have hM : 2 * N = (b * (4 * G)) * Q + 2 * (b * u + r) := by
    rw [← hN, ← hq, Nat.mul_add b, Nat.mul_add 2, Nat.mul_add 2]
    have e : b * (4 * G) * Q = 2 * (b * (2 * G * Q)) := by
      rw [show 4 * G = 2 * (2 * G) by omega]
      simp only [Nat.mul_assoc, Nat.mul_left_comm]
    rw [e]
    omega
  have m1 : b * u + b ≤ b * (2 * G) := by
    rw [← Nat.mul_succ]
    exact Nat.mul_le_mul_left _ hu
  have m2 : b * (4 * G) = 2 * (b * (2 * G)) := by
    rw [show 4 * G = 2 * (2 * G) by omega, Nat.mul_left_comm]
  have m3 : b * (2 * G) = 2 * (b * G) := Nat.mul_left_comm _ _ _
  have lt : 2 * (b * u + r) < b * (4 * G) := by omega
  unfold frac
  have d1 : 2 * N / (b * (4 * G)) = Q := by
    rw [hM, Nat.mul_add_div (by omega), Nat.div_eq_of_lt lt, Nat.add_zero]
  have d2 : 2 * N % (b * (4 * G)) = 2 * (b * u + r) := by
    rw [hM, Nat.mul_add_mod, Nat.mod_eq_of_lt lt]
  rw [d1, d2]
  congr 1
  unfold restOf
  simp only [decide_eq_true_eq]
  by_cases z : u = 0 ∧ r = 0
  · rw [if_pos z, if_pos (by rw [z.1, z.2]; simp)]
  · rw [if_neg z]
    have nz : ¬ 2 * (b * u + r) = 0 := by
      intro w
      have w1 : b * u = 0 := by omega
      have w2 : r = 0 := by omega
      rcases Nat.mul_eq_zero.mp w1 with w3 | w3
      · omega
      · exact z ⟨w3, w2⟩
    rw [if_neg nz]
    by_cases c : u < G
    · have k : b * u + b ≤ b * G := by
        rw [← Nat.mul_succ]
        exact Nat.mul_le_mul_left _ c
      rw [if_pos c, if_pos (show 2 * (2 * (b * u + r)) < b * (4 * G) by omega)]
    · rw [if_neg c]
      by_cases c2 : u = G
      · rw [c2]
        rw [if_neg (show ¬ 2 * (2 * (b * G + r)) < b * (4 * G) by omega)]
        by_cases c3 : r = 0
        · rw [if_pos (show 2 * (2 * (b * G + r)) = b * (4 * G) by omega), if_pos ⟨rfl, c3⟩]
        · rw [if_neg (show ¬ 2 * (2 * (b * G + r)) = b * (4 * G) by omega), if_neg (fun w => c3 w.2)]
      · have k : b * G + b ≤ b * u := by
          rw [← Nat.mul_succ]
          exact Nat.mul_le_mul_left _ (by omega)
        rw [if_neg (show ¬ 2 * (2 * (b * u + r)) < b * (4 * G) by omega), if_neg (show ¬ 2 * (2 * (b * u + r)) = b * (4 * G) by omega), if_neg (fun w => c2 w.1)]
theorem round_congr {F : Fmt} {m : Nat} {neg : Bool} {x y : Exact} (h1 : x.above = y.above) (h2 : ∀ k, x.above - 1 - (F.fbits : Int) ≤ k → x.at_ k = y.at_ k) : RvNum.round F m neg x = RvNum.round F m neg y := by
  have e1 : place F x = place F y := by
    unfold place
    rw [h1]
  have e2 : x.at_ (place F x) = y.at_ (place F x) := h2 _ (by
    unfold place
    omega)
  have e3 : tiny F m neg x = tiny F m neg y := by
    unfold tiny
    dsimp only
    rw [h2 _ (Int.le_refl _), h1]
  unfold RvNum.round
  dsimp only
  rw [e2, e1, e3]
theorem sticky_ratio {q : Nat} (hq : q ≠ 0) (x : Bool) (e : Int) : ratio (sticky q x) 1 e = ⟨ratioAt (sticky q x) 1 e, (q.log2 : Int) + e + 2⟩ := by
  obtain ⟨h1, h2⟩ := sticky_log hq x
  rw [ratio_one _ h2, h1]
  congr 1
  omega
theorem ratioAt_up (M : Nat) (e : Int) (i : Nat) : ratioAt M 1 e (e + i) = frac M (2 ^ i) := by
  rw [ratioAt_frac]
  refine frac_cross ?_ (by simpa using Nat.two_pow_pos _) (Nat.two_pow_pos _)
  rw [show (e - (e + (i : Int))).toNat = 0 by omega, show (e + (i : Int) - e).toNat = i by omega]
  simp
/-- the quotient -/
theorem quot_round {F : Fmt} {m : Nat} {neg : Bool} {a b sh : Nat} {s : Int} (ha : a ≠ 0) (hb : b ≠ 0) (hsh : F.fbits + 2 + b.log2 ≤ a.log2 + sh) :
    RvNum.round F m neg (ratio a b s) = RvNum.round F m neg (ratio (sticky (a * 2 ^ sh / b) (decide (a * 2 ^ sh % b = 0))) 1 (s - sh - 1)) := by
  obtain ⟨a1, a2⟩ := log2_self ha
  obtain ⟨b1, b2⟩ := log2_self hb
  have b0 : 0 < b := Nat.pos_of_ne_zero hb
  obtain ⟨p, hp⟩ : ∃ p, a.log2 + sh = b.log2 + (p + 1) := ⟨a.log2 + sh - b.log2 - 1, by omega⟩
  -- the quotient's size
  have q1 : 2 ^ p ≤ a * 2 ^ sh / b := by
    rw [Nat.le_div_iff_mul_le b0]
    have x1 : 2 ^ (a.log2 + sh) ≤ a * 2 ^ sh := by
      rw [Nat.pow_add]
      exact Nat.mul_le_mul_right _ a1
    have x2 : 2 ^ p * b ≤ 2 ^ p * 2 ^ (b.log2 + 1) := Nat.mul_le_mul_left _ (Nat.le_of_lt b2)
    rw [← Nat.pow_add] at x2
    rw [hp, show b.log2 + (p + 1) = p + (b.log2 + 1) by omega] at x1
    exact Nat.le_trans x2 x1
  have q2 : a * 2 ^ sh / b < 2 ^ (p + 2) := by
    rw [Nat.div_lt_iff_lt_mul b0]
    have x1 : a * 2 ^ sh < 2 ^ (a.log2 + 1) * 2 ^ sh := Nat.mul_lt_mul_of_pos_right a2 (Nat.two_pow_pos _)
    rw [← Nat.pow_add, show a.log2 + 1 + sh = (p + 2) + b.log2 by omega, Nat.pow_add] at x1
    exact Nat.lt_of_lt_of_le x1 (Nat.mul_le_mul_left _ b1)
  have q0 : a * 2 ^ sh / b ≠ 0 := Nat.ne_of_gt (Nat.lt_of_lt_of_le (Nat.two_pow_pos _) q1)
  have test : 1 ≤ (ratioAt a b s ((a.log2 : Int) - b.log2 + s)).1 ↔ 2 ^ (p + 1) ≤ a * 2 ^ sh / b := by
    have pp : frac (a * 2 ^ (s - ((a.log2 : Int) - b.log2 + s)).toNat) (b * 2 ^ (((a.log2 : Int) - b.log2 + s) - s).toNat) = frac (a * 2 ^ sh) (b * 2 ^ (p + 1)) := by
      refine frac_cross ?_ (Nat.mul_pos b0 (Nat.two_pow_pos _)) (Nat.mul_pos b0 (Nat.two_pow_pos _))
      by_cases c : b.log2 ≤ a.log2
      · rw [show (s - ((a.log2 : Int) - b.log2 + s)).toNat = 0 by omega, show (((a.log2 : Int) - b.log2 + s) - s).toNat = a.log2 - b.log2 by omega]
        rw [show p + 1 = (a.log2 - b.log2) + sh by omega, Nat.pow_add]
        simp only [Nat.pow_zero, Nat.mul_one, Nat.mul_assoc, Nat.mul_left_comm, Nat.mul_comm]
      · rw [show (s - ((a.log2 : Int) - b.log2 + s)).toNat = b.log2 - a.log2 by omega, show (((a.log2 : Int) - b.log2 + s) - s).toNat = 0 by omega]
        rw [show sh = (b.log2 - a.log2) + (p + 1) by omega]
        simp only [Nat.pow_add, Nat.pow_zero, Nat.mul_one, Nat.mul_assoc, Nat.mul_left_comm, Nat.mul_comm]
    rw [ratioAt_frac, pp]
    show 1 ≤ a * 2 ^ sh / (b * 2 ^ (p + 1)) ↔ _
    rw [← Nat.div_div_eq_div_mul, Nat.le_div_iff_mul_le (Nat.two_pow_pos _), Nat.one_mul]
  have ab : (ratio a b s).above = ((a * 2 ^ sh / b).log2 : Int) + (s - sh - 1) + 2 := by
    unfold ratio
    dsimp only
    by_cases c : 2 ^ (p + 1) ≤ a * 2 ^ sh / b
    · rw [if_pos (test.mpr c), log2_eq c q2]
      omega
    · rw [if_neg (fun z => c (test.mp z)), log2_eq q1 (Nat.lt_of_not_le c)]
      omega
  have lg : F.fbits + 1 ≤ (a * 2 ^ sh / b).log2 := Nat.le_trans (by omega) (log2_ge q1)
  rw [sticky_ratio q0]
  refine round_congr ab fun k hk => ?_
  rw [ab] at hk
  obtain ⟨i, hi⟩ : ∃ i : Nat, k = (s - sh - 1) + ((i + 2 : Nat) : Int) := ⟨(k - (s - sh - 1) - 2).toNat, by omega⟩
  show ratioAt a b s k = ratioAt _ 1 _ k
  rw [hi, ratioAt_up, show 2 ^ (i + 2) = 4 * 2 ^ i by rw [Nat.pow_add, Nat.mul_comm], ← quot_frac _ _ _ b0 (Nat.two_pow_pos _), ratioAt_frac]
  refine frac_cross ?_ (Nat.mul_pos b0 (Nat.two_pow_pos _)) (Nat.mul_pos b0 (by have := Nat.two_pow_pos i; omega))
  have e4 : 4 * 2 ^ i = 2 ^ (i + 2) := by rw [Nat.pow_add, Nat.mul_comm]
  have e2 : 2 * (a * 2 ^ sh) = a * 2 ^ (sh + 1) := by rw [Nat.pow_succ]; simp only [Nat.mul_assoc, Nat.mul_left_comm, Nat.mul_comm]
  rw [e4, e2]
  by_cases c : i + 2 ≤ sh + 1
  · rw [show (s - (s - (sh : Int) - 1 + ((i + 2 : Nat) : Int))).toNat = sh + 1 - (i + 2) by omega, show (s - (sh : Int) - 1 + ((i + 2 : Nat) : Int) - s).toNat = 0 by omega]
    have : 2 ^ (sh + 1) = 2 ^ (sh + 1 - (i + 2)) * 2 ^ (i + 2) := by rw [← Nat.pow_add]; congr 1; omega
    rw [this]
    simp only [Nat.pow_zero, Nat.mul_one, Nat.mul_assoc, Nat.mul_left_comm, Nat.mul_comm]
  · rw [show (s - (s - (sh : Int) - 1 + ((i + 2 : Nat) : Int))).toNat = 0 by omega, show (s - (sh : Int) - 1 + ((i + 2 : Nat) : Int) - s).toNat = i + 2 - (sh + 1) by omega]
    have : 2 ^ (i + 2) = 2 ^ (i + 2 - (sh + 1)) * 2 ^ (sh + 1) := by rw [← Nat.pow_add]; congr 1; omega
    rw [this]
    simp only [Nat.pow_zero, Nat.mul_one, Nat.mul_assoc, Nat.mul_left_comm, Nat.mul_comm]
end FH
end
section
set_option linter.all false
set_option Elab.async false
/-! the root -/
namespace FH
open RvNum RvMach
theorem isqrtFrom_ok (n : Nat) : ∀ (j q : Nat), q * q ≤ n → n < (q + 2 ^ j) * (q + 2 ^ j) → isqrtFrom n j q * isqrtFrom n j q ≤ n ∧ n < (isqrtFrom n j q + 1) * (isqrtFrom n j q + 1)
  | 0, q, h1, h2 => ⟨h1, h2⟩
  | j + 1, q, h1, h2 => by
    unfold isqrtFrom
    have p : 2 ^ (j + 1) = 2 ^ j + 2 ^ j := by rw [Nat.pow_succ]; omega
    split
    · rename_i c
      refine isqrtFrom_ok n j _ c ?_
      rw [Nat.add_assoc, ← p]
      exact h2
    · rename_i c
      exact isqrtFrom_ok n j _ h1 (Nat.lt_of_not_le c)
theorem isqrt_ok (n : Nat) : isqrt n * isqrt n ≤ n ∧ n < (isqrt n + 1) * (isqrt n + 1) := by
  unfold isqrt
  refine isqrtFrom_ok n _ 0 (by simp) ?_
  rw [Nat.zero_add, ← Nat.pow_add]
  exact Nat.lt_of_lt_of_le Nat.lt_log2_self (Nat.pow_le_pow_right (by decide) (by omega))
theorem sq_lt {a b : Nat} (h : a * a < b * b) : a < b := by
  rcases Nat.lt_or_ge a b with q | q
  · exact q
  · exact absurd (Nat.lt_of_lt_of_le h (Nat.mul_le_mul q q)) (Nat.lt_irrefl _)
theorem isqrt_lt {n x : Nat} : isqrt n < x ↔ n < x * x := by
  obtain ⟨h1, h2⟩ := isqrt_ok n
  constructor
  · intro h
    exact Nat.lt_of_lt_of_le h2 (Nat.mul_le_mul h h)
  · intro h
    exact sq_lt (Nat.lt_of_le_of_lt h1 h)
theorem isqrt_ge {n x : Nat} : x ≤ isqrt n ↔ x * x ≤ n := by
  have := isqrt_lt (n := n) (x := x)
  omega
theorem isqrt_eq {n r : Nat} (h1 : r * r ≤ n) (h2 : n < (r + 1) * (r + 1)) : isqrt n = r := by
  have a := isqrt_ge.mpr h1
  have b := isqrt_lt.mpr h2
  omega
theorem isqrt_log {n : Nat} (h : n ≠ 0) : (isqrt n).log2 = n.log2 / 2 := by
  obtain ⟨h1, h2⟩ := log2_self h
  refine log2_eq (isqrt_ge.mpr ?_) (isqrt_lt.mpr ?_)
  · rw [← Nat.pow_add]
    exact Nat.le_trans (Nat.pow_le_pow_right (by decide) (by omega)) h1
  · rw [← Nat.pow_add]
    exact Nat.lt_of_lt_of_le h2 (Nat.pow_le_pow_right (by decide) (by omega))
theorem sq_mul (a b : Nat) : a * b * (a * b) = a * a * (b * b) := by simp only [Nat.mul_assoc, Nat.mul_left_comm, Nat.mul_comm]
/-- the root at a grid, from a wide square -/
theorem root_at {N nn dd G : Nat} (hG : 0 < G) (hd : 0 < dd) (cr : nn * ((2 * G) * (2 * G)) = N * dd) :
    (isqrt (nn / dd), if isqrt (nn / dd) * isqrt (nn / dd) * dd = nn then 0 else if 4 * nn < (2 * isqrt (nn / dd) + 1) * (2 * isqrt (nn / dd) + 1) * dd then 1 else if 4 * nn = (2 * isqrt (nn / dd) + 1) * (2 * isqrt (nn / dd) + 1) * dd then 2 else (3 : Nat)) =
      frac (sticky (isqrt N) (decide (isqrt N * isqrt N = N))) (4 * G) := by
  rw [sticky_frac _ _ hG]
  have HH : 0 < (2 * G) * (2 * G) := Nat.mul_pos (by omega) (by omega)
  have eqm : ∀ {a b c : Nat}, 0 < c → (a = b ↔ a * c = b * c) := fun hc => ⟨fun h => by rw [h], fun h => Nat.eq_of_mul_eq_mul_right hc h⟩
  have ltm : ∀ {a b c : Nat}, 0 < c → (a < b ↔ a * c < b * c) := fun hc => (Nat.mul_lt_mul_right hc).symm
  have cr4 : 4 * nn * ((2 * G) * (2 * G)) = 4 * N * dd := by rw [Nat.mul_assoc, cr, Nat.mul_assoc]
  have k1 : ∀ x : Nat, (x * dd = nn) = (x * ((2 * G) * (2 * G)) = N) := fun x => propext (by
    rw [eqm HH, cr, eqm hd (a := x * ((2 * G) * (2 * G))), Nat.mul_right_comm])
  have k2 : ∀ x : Nat, (4 * nn < x * dd) = (4 * N < x * ((2 * G) * (2 * G))) := fun x => propext (by
    rw [ltm HH, cr4, ltm hd (a := 4 * N), Nat.mul_right_comm x])
  have k3 : ∀ x : Nat, (4 * nn = x * dd) = (4 * N = x * ((2 * G) * (2 * G))) := fun x => propext (by
    rw [eqm HH, cr4, eqm hd (a := 4 * N), Nat.mul_right_comm x])
  obtain ⟨s1, s2⟩ := isqrt_ok N
  have fl : nn / dd = N / ((2 * G) * (2 * G)) := by
    have := congrArg Prod.fst (frac_cross cr hd HH)
    exact this
  have Q : isqrt (nn / dd) = isqrt N / (2 * G) := by
    rw [fl]
    refine isqrt_eq ?_ ?_
    · rw [Nat.le_div_iff_mul_le HH, ← sq_mul]
      exact Nat.le_trans (Nat.mul_le_mul (Nat.div_mul_le_self _ _) (Nat.div_mul_le_self _ _)) s1
    · rw [Nat.div_lt_iff_lt_mul HH, ← sq_mul]
      refine Nat.lt_of_lt_of_le s2 (Nat.mul_le_mul ?_ ?_) <;> exact Nat.lt_mul_of_div_lt (Nat.lt_succ_self _) (by omega)
  rw [Q]
  congr 1
  simp only [k1, k2, k3]
  have hu : isqrt N % (2 * G) < 2 * G := Nat.mod_lt _ (by omega)
  have hq := Nat.div_add_mod (isqrt N) (2 * G)
  have lt : ∀ x, isqrt N < x ↔ N < x * x := fun x => isqrt_lt
  generalize isqrt N % (2 * G) = u at *
  generalize isqrt N / (2 * G) = q at *
  generalize isqrt N = r at *
  rw [← sq_mul, ← sq_mul]
  have g1 : q * (2 * G) = 2 * G * q := Nat.mul_comm _ _
  have g2 : (2 * q + 1) * (2 * G) = 2 * (2 * G * q + G) := by
    rw [Nat.add_mul, Nat.mul_assoc, g1]
    omega
  rw [g1, g2]
  have g3 : 2 * (2 * G * q + G) * (2 * (2 * G * q + G)) = 4 * ((2 * G * q + G) * (2 * G * q + G)) := by
    exact Nat.mul_mul_mul_comm _ _ _ _
  rw [g3]
  simp only [decide_eq_true_eq]
  have l1 := lt (2 * G * q + G)
  by_cases z : u = 0 ∧ r * r = N
  · rw [if_pos z, if_pos]
    rw [← z.2, ← hq, z.1]
    simp
  · rw [if_neg z, if_neg]
    · by_cases c : u < G
      · rw [if_pos c, if_pos]
        have : N < (2 * G * q + G) * (2 * G * q + G) := l1.mp (by omega)
        omega
      · rw [if_neg c, if_neg]
        · by_cases c2 : u = G ∧ r * r = N
          · rw [if_pos c2, if_pos]
            rw [← c2.2, ← hq, c2.1]
          · rw [if_neg c2, if_neg]
            intro w
            have w2 : N = (2 * G * q + G) * (2 * G * q + G) := by omega
            have w3 : ¬ r < 2 * G * q + G := fun x => by
              have := l1.mp x
              omega
            have w4 : r < 2 * G * q + G + 1 := (lt _).mpr (by
              rw [w2]
              exact Nat.mul_lt_mul'' (by omega) (by omega))
            have w5 : r = 2 * G * q + G := by omega
            exact c2 ⟨by omega, by rw [w5]; exact w2.symm⟩
        · intro w
          have := l1.mpr (by omega)
          omega
    · intro w
      have w4 : r < 2 * G * q + 1 := (lt _).mpr (by
        rw [← w]
        exact Nat.mul_lt_mul'' (by omega) (by omega))
      have w5 : r = 2 * G * q := by omega
      exact z ⟨by omega, by rw [w5]; exact w⟩
/-- the root -/
theorem root_round {F : Fmt} {m : Nat} {neg : Bool} {n sh : Nat} {k h : Int} (hn : n ≠ 0) (hh : k - sh = 2 * h) (hsh : 2 * (F.fbits + 2) ≤ n.log2 + 1 + sh) :
    RvNum.round F m neg (RvNum.root n k) = RvNum.round F m neg (ratio (sticky (isqrt (n * 2 ^ sh)) (decide (isqrt (n * 2 ^ sh) * isqrt (n * 2 ^ sh) = n * 2 ^ sh))) 1 (h - 1)) := by
  obtain ⟨a1, a2⟩ := log2_self hn
  have N0 : n * 2 ^ sh ≠ 0 := Nat.ne_of_gt (Nat.mul_pos (Nat.pos_of_ne_zero hn) (Nat.two_pow_pos _))
  have NL : (n * 2 ^ sh).log2 = n.log2 + sh := by
    refine log2_eq ?_ ?_
    · rw [Nat.pow_add]
      exact Nat.mul_le_mul_right _ a1
    · rw [show n.log2 + sh + 1 = n.log2 + 1 + sh by omega, Nat.pow_add]
      exact Nat.mul_lt_mul_of_pos_right a2 (Nat.two_pow_pos _)
  have qL := isqrt_log N0
  rw [NL] at qL
  have q0 : isqrt (n * 2 ^ sh) ≠ 0 := by
    intro z
    have := isqrt_lt (n := n * 2 ^ sh) (x := 1)
    rw [z] at this
    omega
  have ab : (RvNum.root n k).above = ((isqrt (n * 2 ^ sh)).log2 : Int) + (h - 1) + 2 := by
    unfold RvNum.root
    dsimp only
    rw [qL]
    omega
  rw [sticky_ratio q0]
  refine round_congr ab fun j hj => ?_
  rw [ab, qL] at hj
  obtain ⟨i, hi⟩ : ∃ i : Nat, j = (h - 1) + ((i + 2 : Nat) : Int) := ⟨(j - (h - 1) - 2).toNat, by omega⟩
  show rootAt n k j = ratioAt _ 1 _ j
  rw [hi, ratioAt_up, show 2 ^ (i + 2) = 4 * 2 ^ i by rw [Nat.pow_add, Nat.mul_comm]]
  have p4 : 2 * 2 ^ i * (2 * 2 ^ i) = 2 ^ (2 * (i + 1)) := by
    rw [show 2 * 2 ^ i = 2 ^ (i + 1) by rw [Nat.pow_succ, Nat.mul_comm], ← Nat.pow_add]
    congr 1
    omega
  refine Eq.trans ?_ (root_at (N := n * 2 ^ sh) (nn := n * 2 ^ (k - 2 * ((h - 1) + ((i + 2 : Nat) : Int))).toNat) (dd := 2 ^ (2 * ((h - 1) + ((i + 2 : Nat) : Int)) - k).toNat) (Nat.two_pow_pos i) (Nat.two_pow_pos _) ?_)
  · rfl
  · rw [p4]
    by_cases c : 2 * (i + 1) ≤ sh
    · rw [show (k - 2 * ((h - 1) + ((i + 2 : Nat) : Int))).toNat = sh - 2 * (i + 1) by omega, show (2 * ((h - 1) + ((i + 2 : Nat) : Int)) - k).toNat = 0 by omega]
      have : 2 ^ sh = 2 ^ (sh - 2 * (i + 1)) * 2 ^ (2 * (i + 1)) := by rw [← Nat.pow_add]; congr 1; omega
      rw [this]
      simp only [Nat.pow_zero, Nat.mul_one, Nat.mul_assoc]
    · rw [show (k - 2 * ((h - 1) + ((i + 2 : Nat) : Int))).toNat = 0 by omega, show (2 * ((h - 1) + ((i + 2 : Nat) : Int)) - k).toNat = 2 * (i + 1) - sh by omega]
      have : 2 ^ (2 * (i + 1)) = 2 ^ sh * 2 ^ (2 * (i + 1) - sh) := by rw [← Nat.pow_add]; congr 1; omega
      rw [this]
      simp only [Nat.pow_zero, Nat.mul_one, Nat.mul_assoc]
end FH
end
section
set_option linter.all false
set_option Elab.async false
set_option maxRecDepth 10000
namespace FH
open RvNum RvMach
local macro_rules | `(tactic| array_get_dec) => `(tactic| simp only [senv, List.map_cons, List.map_nil, List.length_cons, List.length_nil, Nat.reduceAdd, Nat.reduceSub, List.replicate_zero, List.replicate_succ, List.cons_append, List.nil_append, List.append_nil, List.set_cons_zero, List.set_cons_succ,
  exs, ex, ↓ev_max2, ↓ev_min2, ↓ev_abs, ev, evs, evAnd, evOr, op2, cp2, onInt, onBl, onSeq, onLst, onTup, onMach, onInts, onSome, intsOf, Option.map_some, Option.map_none, getS_0, getS_n, getS_s, setAll, atQ, fromQ, decide_eq_true_eq, Bool.not_eq_true', decide_eq_false_iff_not, Bool.true_eq_false, Bool.false_eq_true, if_true, if_false, ite_true, ite_false, outQ_ok, outQ_flt, and_true, true_and, PV.int.injEq, PV.bl.injEq, PV.tup.injEq, PV.lst.injEq, c0, c1, c2, c3, c4, c5, c6, c7, c8, c9, c10, c11, c12, c13, c14, c15, c16, c17, c18, c19, c20, c21, c22, c23, c24, c25, c26, c27, c28, c29, c30, n31, c32, c33, c34, c35, c36, c37, c38, c39, c40, c41, c42, c43, c44, c45, c46, c47, c48, c49, c50, c51, c52, c53, c54, c55, c56, c57, c58, c59, c60, c61, c62, c63, c64, c65, c67, c68, c69, c70, c71, c72, c73, c74, c75, c76, c77, c78, c79, c80, c81, c82, c83, c84, c85, c86, c87, c88, c89, c90, c91, c92, c93, c94, c95, c96, c97, c98, c99, c100, c101, c102, c103, c104, c105, c106, c107, c108, c109, c110, c111, c112, c113, c114, c115, c116, c117, c118, c119, c120, c121, c122, c123, c124, c125, c126, c127, c128, c129, c130, c131, c132, c133, c134, c135, tc0, tc1, tc2, tc3, tc4, tc5, tc6, tc7, tc8, tc9, tc10, tc11, tc12, tc13, tc14, tc15, tc16, tc17, tc18, tc19, tc20, tc21, tc22, tc23, tc24, tc25, tc26, tc27, tc28, tc29, tc30, tc31, tc32, tc33, tc34, tc35, tc36, tc37, tc38, tc39, tc40, tc41, tc42, tc43, tc44, tt0, tt1, tt2, tt3, tt4, td0, td1, List.drop_succ_cons, List.drop_zero
])
theorem pM_pos {f : Int} (h : okF f) {a b : Nat} (ha : pM (fm f) a ≠ 0) (hb : pM (fm f) b ≠ 0) (k : Int) : (0 < ((pM (fm f) a * pM (fm f) b : Nat) : Int) ∧ ibits ((pM (fm f) a * pM (fm f) b : Nat) : Int) ≤ 4900) ∧ (-4900 ≤ pE (fm f) a + pE (fm f) b ∧ pE (fm f) a + pE (fm f) b ≤ 4900) := by
  obtain ⟨_, _, ⟨_, h1⟩, h2, h3⟩ := okP_mul h true a b
  replace h1 : ibits ((pM (fm f) a * pM (fm f) b : Nat) : Int) ≤ 120 := h1
  replace h2 : -2200 ≤ pE (fm f) a + pE (fm f) b := h2
  replace h3 : pE (fm f) a + pE (fm f) b ≤ 2200 := h3
  have : 0 < pM (fm f) a * pM (fm f) b := Nat.mul_pos (Nat.pos_of_ne_zero ha) (Nat.pos_of_ne_zero hb)
  exact ⟨⟨by omega, by omega⟩, by omega, by omega⟩
theorem g43 : Good tb (tb.fn 43) 4 7 k43 := by
  refine gd43 rfl fun F μ f m a b h => ?_
  unfold k43
  array_get_dec
  obtain ⟨hf, hm, ha, hb⟩ := h
  obtain ⟨a, rfl⟩ := Int.eq_ofNat_of_zero_le ha
  obtain ⟨b, rfl⟩ := Int.eq_ofNat_of_zero_le hb
  have hl := zmem2 ha hb
  have ab := pM_pos hf (a := a) (b := b)
  simp only [Int.toNat_natCast, List.map_cons, List.map_nil]
  rcases num_cases (F := fm f) a with ⟨s, e⟩ | e | e <;> rcases num_cases (F := fm f) b with ⟨t, e'⟩ | e' | e' <;>
    simp only [e, e', isNan, isInf, isZero, infZ, RvNum.mul, if_true, if_false, Bool.false_eq_true, hf, ha, hb, hm, and_self, true_and, b2i_eq, dec_b2i, sgb, t2z, xor_b2i, Bool.true_and, Bool.false_and, Bool.and_false, Bool.and_true]
  all_goals first | exact ⟨hl, trivial⟩ | skip
  · rfl
  · by_cases q : pM (fm f) b = 0
    · simp [q]
    · simp [q, RvNum.inf]
  · by_cases q : pM (fm f) a = 0
    · simp [q]
    · simp [q, RvNum.inf]
  · by_cases q : pM (fm f) a = 0
    · simp [q, zero]
    · by_cases p : pM (fm f) b = 0
      · simp [q, p, zero]
      · have := ab q p 0
        simp only [beq_eq_false_iff_ne.mpr q, beq_eq_false_iff_ne.mpr p, Bool.false_eq_true, if_false]
        rw [if_neg (Nat.mul_ne_zero q p)]
        exact ⟨⟨by decide, by decide⟩, this, rfl⟩
theorem marked_eq (q x : Nat) : (2 * (q : Int) + if (x : Int) = 0 then 0 else 1) = ((sticky q (decide (x = 0)) : Nat) : Int) := by
  unfold sticky
  by_cases h : x = 0
  · subst h
    simp
  · rw [if_neg (by omega)]
    simp [h]
theorem marked_eq2 (q x y : Nat) : (2 * (q : Int) + if (x : Int) = (y : Int) then 0 else 1) = ((sticky q (decide (x = y)) : Nat) : Int) := by
  unfold sticky
  by_cases h : x = y
  · subst h
    simp
  · rw [if_neg (by omega)]
    simp [h]
theorem sticky_ib {q k : Nat} (x : Bool) (h : ibits (q : Int) ≤ k) : ibits ((sticky q x : Nat) : Int) ≤ k + 1 := by
  refine ibits_le ?_
  have := ibits_lt h
  unfold sticky
  rw [Nat.pow_succ]
  cases x <;> simp <;> omega
theorem g46 : Good tb (tb.fn 46) 5 12 k46 := by
  refine gd46 rfl fun F μ f m s x y h => ?_
  unfold k46
  array_get_dec
  obtain ⟨hf, hm, hs, hx, hy⟩ := h
  obtain ⟨lx, nx, kx⟩ := hx
  obtain ⟨ly, ny, ky⟩ := hy
  obtain ⟨n, k, rfl⟩ : ∃ n k, x = [n, k] := by
    match x, lx with
    | [n, k], _ => exact ⟨_, _, rfl⟩
  obtain ⟨p, j, rfl⟩ : ∃ n k, y = [n, k] := by
    match y, ly with
    | [n, k], _ => exact ⟨_, _, rfl⟩
  replace nx : 0 < n ∧ ibits n ≤ 60 := nx
  replace ny : 0 < p ∧ ibits p ≤ 60 := ny
  replace kx : -1200 ≤ k ∧ k ≤ 1200 := kx
  replace ky : -1200 ≤ j ∧ j ≤ 1200 := ky
  obtain ⟨n, rfl⟩ := Int.eq_ofNat_of_zero_le (Int.le_of_lt nx.1)
  obtain ⟨p, rfl⟩ := Int.eq_ofNat_of_zero_le (Int.le_of_lt ny.1)
  array_get_dec
  simp only [List.getD_cons_zero, List.getD_cons_succ, Int.toNat_natCast]
  refine ⟨hf, fun w hw => ?_⟩
  have n0 : n ≠ 0 := by omega
  have p0 : p ≠ 0 := by omega
  have H := isF hf
  have h2 := H.f2
  rw [ibits_pos n0, ibits_pos p0] at hw
  have l1 := ibits_pos n0
  have l2 := ibits_pos p0
  obtain ⟨sh, rfl⟩ : ∃ sh : Nat, w = sh := ⟨w.toNat, by omega⟩
  have hsh : (fm f).fbits + 2 + p.log2 ≤ n.log2 + sh := by omega
  have shl : sh ≤ 120 := by omega
  have ia := ib_shl (i := sh) (k := 120) nx.2 shl
  have iq := ibits_div (d := p) ia
  have e1 : ((n * 2 ^ sh : Nat) : Int) / (p : Int) = ((n * 2 ^ sh / p : Nat) : Int) := rfl
  have e2 : ((n * 2 ^ sh : Nat) : Int) % (p : Int) = ((n * 2 ^ sh % p : Nat) : Int) := rfl
  simp only [Int.toNat_natCast, shl_nat, e1, e2, marked_eq]
  have is := sticky_ib (decide (n * 2 ^ sh % p = 0)) iq
  have q := quot_round (F := fm f) (m := m.toNat) (neg := decide (s = 1)) (s := k - j) n0 p0 hsh
  have q1 : n * 2 ^ sh / p ≠ 0 := by
    have c : p ≤ n * 2 ^ sh := by
      have a1 := (log2_self n0).1
      have a2 := (log2_self p0).2
      have a3 : 2 ^ (p.log2 + 1) ≤ 2 ^ (n.log2 + sh) := Nat.pow_le_pow_right (by decide) (by omega)
      rw [Nat.pow_add 2 n.log2 sh] at a3
      have a4 := Nat.mul_le_mul_right (2 ^ sh) a1
      omega
    exact Nat.ne_of_gt (Nat.div_pos c (by omega))
  have sp := (sticky_log q1 (decide (n * 2 ^ sh % p = 0))).2
  refine ⟨⟨by omega, by omega⟩, ⟨by omega, by omega⟩, ⟨Int.natCast_nonneg _, by omega⟩, ⟨hf, hm, hs, ⟨by omega, by omega⟩, by omega, by omega⟩, ?_⟩
  rw [q]
theorem nan_of {F : Fmt} {a : Nat} {s : Bool} (e : num F a = .nan s) : isNan (num F a) = true := by rw [e]; rfl
theorem okQ_mk {f : Int} (h : okF f) {a : Nat} (ha : pM (fm f) a ≠ 0) : okQ [(pM (fm f) a : Nat), pE (fm f) a] := by
  obtain ⟨h1, h2, h3⟩ := parts_ok h a
  have := ibits_le h1
  refine ⟨rfl, ⟨?_, ?_⟩, ?_, ?_⟩
  · show 0 < ((pM (fm f) a : Nat) : Int)
    omega
  · show ibits ((pM (fm f) a : Nat) : Int) ≤ 60
    omega
  · show -1200 ≤ pE (fm f) a
    omega
  · show pE (fm f) a ≤ 1200
    omega
theorem g47 : Good tb (tb.fn 47) 4 5 k47 := by
  refine gd47 rfl fun F μ f m a b h => ?_
  unfold k47
  array_get_dec
  obtain ⟨hf, hm, ha, hb⟩ := h
  obtain ⟨a, rfl⟩ := Int.eq_ofNat_of_zero_le ha
  obtain ⟨b, rfl⟩ := Int.eq_ofNat_of_zero_le hb
  have hl := zmem2 ha hb
  have qa := okQ_mk hf (a := a)
  have qb := okQ_mk hf (a := b)
  have dz : ∀ s : Bool, PV.tup [((signed (fm f) s (fm f).infinity : Nat) : Int), 8] = t2 (signed (fm f) s (fm f).infinity, DZ) := fun _ => rfl
  simp only [Int.toNat_natCast, List.map_cons, List.map_nil]
  rcases num_cases (F := fm f) a with ⟨s, e⟩ | e | e <;> rcases num_cases (F := fm f) b with ⟨t, e'⟩ | e' | e' <;>
    simp only [e, e', isNan, isInf, isZero, infZ, RvNum.div, if_true, if_false, Bool.false_eq_true, hf, ha, hb, hm, and_self, true_and, b2i_eq, dec_b2i, sgb, t2z, xor_b2i, Bool.true_and, Bool.false_and, Bool.and_false, Bool.and_true, dz]
  all_goals first | exact ⟨hl, trivial⟩ | trivial | skip
  by_cases q : pM (fm f) a = 0
  · by_cases p : pM (fm f) b = 0
    · simp [q, p]
    · simp [q, p, zero]
  · by_cases p : pM (fm f) b = 0
    · simp [q, p]
    · simp only [beq_eq_false_iff_ne.mpr q, beq_eq_false_iff_ne.mpr p, q, p, Bool.false_eq_true, if_false]
      exact ⟨⟨by decide, by decide⟩, ⟨by decide, by decide⟩, ⟨qa q, qb p⟩, rfl⟩
theorem ex3 {f : Int} (hf : okF f) (a b c : Nat) : ∀ x ∈ [(a : Int), (b : Int), (c : Int)], 0 ≤ x := zmem3 (Int.natCast_nonneg _) (Int.natCast_nonneg _) (Int.natCast_nonneg _)
theorem g50 : Good tb (tb.fn 50) 3 6 k50 := by
  refine gd50 rfl fun F μ f m a h => ?_
  unfold k50
  array_get_dec
  obtain ⟨hf, hm, ha⟩ := h
  obtain ⟨a, rfl⟩ := Int.eq_ofNat_of_zero_le ha
  have hl := zmem1 ha
  obtain ⟨h1, h2, h3⟩ := parts_ok hf a
  have hi := ibits_le h1
  simp only [Int.toNat_natCast, List.map_cons, List.map_nil]
  rcases num_cases (F := fm f) a with ⟨s, e⟩ | e | e <;>
    simp only [e, isNan, isInf, isZero, RvNum.sqrt, if_true, if_false, Bool.false_eq_true, hf, ha, hm, and_self, true_and, b2i_eq1, dec_b2i, sgb, t2z]
  · exact ⟨hl, trivial⟩
  · cases negOf (fm f) a <;> simp [RvNum.inf, sg, hf]
  · by_cases q : pM (fm f) a = 0
    · simp [q, zero]
    · simp only [beq_eq_false_iff_ne.mpr q, q, Bool.false_eq_true, if_false]
      cases negOf (fm f) a
      · simp only [Bool.false_eq_true, if_false]
        exact ⟨⟨⟨by omega, by omega⟩, by omega, by omega⟩, trivial⟩
      · simp
theorem g51 : Good tb (tb.fn 51) 5 6 k51 := by
  refine gd51 rfl fun F μ f m a b c h => ?_
  unfold k51
  array_get_dec
  obtain ⟨hf, hm, ha, hb, hc⟩ := h
  obtain ⟨a, rfl⟩ := Int.eq_ofNat_of_zero_le ha
  obtain ⟨b, rfl⟩ := Int.eq_ofNat_of_zero_le hb
  obtain ⟨c, rfl⟩ := Int.eq_ofNat_of_zero_le hc
  have hl := zmem3 ha hb hc
  have Pm := okP_mul hf (negOf (fm f) a != negOf (fm f) b) a b
  have Pc := okP_mk hf c
  simp only [Int.toNat_natCast, List.map_cons, List.map_nil]
  rcases num_cases (F := fm f) a with ⟨s, e⟩ | e | e <;> rcases num_cases (F := fm f) b with ⟨t, e'⟩ | e' | e' <;> rcases num_cases (F := fm f) c with ⟨u, e''⟩ | e'' | e'' <;>
    simp only [e, e', e'', isNan, isInf, isZero, infZ, fmaInf, RvNum.fma, if_true, if_false, Bool.false_eq_true, hf, ha, hb, hc, hm, and_self, true_and, b2i_eq, dec_b2i, sgb, t2z, xor_b2i, Bool.true_and, Bool.false_and, Bool.and_false, Bool.and_true]
  all_goals first | exact ⟨hl, trivial⟩ | trivial | skip
  all_goals first
    | exact ⟨⟨Pm, Pc⟩, by simp only [List.getD_cons_zero, List.getD_cons_succ, dec_b2i, Int.toNat_natCast]⟩
    | (by_cases q3 : (negOf (fm f) a != negOf (fm f) b) = negOf (fm f) c <;> cases (pM (fm f) a == 0) <;> cases (pM (fm f) b == 0) <;> simp only [q3, if_true, if_false, Bool.false_eq_true, not_true, not_false_eq_true] <;> first | trivial | exact ⟨hl, by cases u <;> rfl⟩)
theorem g52 : Good tb (tb.fn 52) 6 8 k52 := by
  refine gd52 rfl fun F μ f o m a b c h => ?_
  unfold k52
  array_get_dec
  obtain ⟨hf, ho, hm, ha, hb, hc⟩ := h
  obtain ⟨a, rfl⟩ := Int.eq_ofNat_of_zero_le ha
  obtain ⟨b, rfl⟩ := Int.eq_ofNat_of_zero_le hb
  obtain ⟨c, rfl⟩ := Int.eq_ofNat_of_zero_le hc
  have H := isF3 hf
  have n : ∀ x, 0 ≤ ((signed (fm f) (!negOf (fm f) x) (x % (fm f).signBit) : Nat) : Int) := fun x => Int.natCast_nonneg _
  have hn := num_neg H
  have ho4 : o = 5 ∨ o = 6 ∨ o = 7 ∨ o = 8 := by omega
  have sp : ∀ k, 5 ≤ k → k ≤ 8 → RvNum.op f.toNat k m.toNat a b c = if k = 5 then fma (fm f) m.toNat (num (fm f) a) (num (fm f) b) (num (fm f) c) else if k = 6 then fma (fm f) m.toNat (num (fm f) a) (num (fm f) b) (opposite (num (fm f) c)) else if k = 7 then fma (fm f) m.toNat (opposite (num (fm f) a)) (num (fm f) b) (num (fm f) c) else fma (fm f) m.toNat (opposite (num (fm f) a)) (num (fm f) b) (opposite (num (fm f) c)) := fun k h1 h2 => by
    have e1 : ∀ x, num (fmtOf f.toNat) (x % 2 ^ (fmtOf f.toNat).width) = num (fm f) x := fun x => num_mod H x
    unfold RvNum.op modeOf
    simp only [e1]
    have hk : k = 5 ∨ k = 6 ∨ k = 7 ∨ k = 8 := by omega
    rcases hk with rfl | rfl | rfl | rfl <;> rfl
  simp only [Int.toNat_natCast]
  rw [sp o.toNat (by omega) (by omega)]
  rcases ho4 with rfl | rfl | rfl | rfl
  · exact ⟨by decide, ⟨hf, hm, ha, hb, hc⟩, rfl⟩
  · refine ⟨by decide, ⟨hf, hc⟩, ⟨hf, hm, ha, hb, n c⟩, ?_⟩
    rw [hn]
    rfl
  · refine ⟨⟨hf, ha⟩, by decide, ⟨hf, hm, n a, hb, hc⟩, ?_⟩
    rw [hn]
    rfl
  · refine ⟨⟨hf, ha⟩, by decide, ⟨hf, hc⟩, ⟨hf, hm, n a, hb, n c⟩, ?_⟩
    rw [hn, hn]
    rfl

end FH
end
section
set_option linter.all false
set_option Elab.async false
set_option maxRecDepth 10000
namespace FH
open RvNum RvMach
local macro_rules | `(tactic| array_get_dec) => `(tactic| simp only [senv, List.map_cons, List.map_nil, List.length_cons, List.length_nil, Nat.reduceAdd, Nat.reduceSub, List.replicate_zero, List.replicate_succ, List.cons_append, List.nil_append, List.append_nil, List.set_cons_zero, List.set_cons_succ,
  exs, ex, ↓ev_max2, ↓ev_min2, ↓ev_abs, ev, evs, evAnd, evOr, op2, cp2, onInt, onBl, onSeq, onLst, onTup, onMach, onInts, onSome, intsOf, Option.map_some, Option.map_none, getS_0, getS_n, getS_s, setAll, atQ, fromQ, decide_eq_true_eq, Bool.not_eq_true', decide_eq_false_iff_not, Bool.true_eq_false, Bool.false_eq_true, if_true, if_false, ite_true, ite_false, outQ_ok, outQ_flt, and_true, true_and, PV.int.injEq, PV.bl.injEq, PV.tup.injEq, PV.lst.injEq, c0, c1, c2, c3, c4, c5, c6, c7, c8, c9, c10, c11, c12, c13, c14, c15, c16, c17, c18, c19, c20, c21, c22, c23, c24, c25, c26, c27, c28, c29, c30, n31, c32, c33, c34, c35, c36, c37, c38, c39, c40, c41, c42, c43, c44, c45, c46, c47, c48, c49, c50, c51, c52, c53, c54, c55, c56, c57, c58, c59, c60, c61, c62, c63, c64, c65, c67, c68, c69, c70, c71, c72, c73, c74, c75, c76, c77, c78, c79, c80, c81, c82, c83, c84, c85, c86, c87, c88, c89, c90, c91, c92, c93, c94, c95, c96, c97, c98, c99, c100, c101, c102, c103, c104, c105, c106, c107, c108, c109, c110, c111, c112, c113, c114, c115, c116, c117, c118, c119, c120, c121, c122, c123, c124, c125, c126, c127, c128, c129, c130, c131, c132, c133, c134, c135, tc0, tc1, tc2, tc3, tc4, tc5, tc6, tc7, tc8, tc9, tc10, tc11, tc12, tc13, tc14, tc15, tc16, tc17, tc18, tc19, tc20, tc21, tc22, tc23, tc24, tc25, tc26, tc27, tc28, tc29, tc30, tc31, tc32, tc33, tc34, tc35, tc36, tc37, tc38, tc39, tc40, tc41, tc42, tc43, tc44, tt0, tt1, tt2, tt3, tt4, td0, td1, List.drop_succ_cons, List.drop_zero
])
theorem amgm {r g n : Nat} (hr : r * r ≤ n) (hg : 0 < g) : r ≤ (g + n / g) / 2 := by
  have key : 2 * r ≤ g + n / g := by
    by_cases c : 2 * r ≤ g
    · exact Nat.le_trans c (Nat.le_add_right _ _)
    · obtain ⟨d, hd⟩ : ∃ d, 2 * r = d + g := ⟨2 * r - g, by omega⟩
      have : d ≤ n / g := by
        rw [Nat.le_div_iff_mul_le hg]
        refine Nat.le_trans ?_ hr
        by_cases q : g ≤ r
        · obtain ⟨t, rfl⟩ : ∃ t, r = g + t := ⟨r - g, by omega⟩
          have e : d = g + 2 * t := by omega
          subst e
          have a : (g + 2 * t) * g = g * g + 2 * (t * g) := by rw [Nat.add_mul, Nat.mul_assoc]
          have b : (g + t) * (g + t) = g * g + 2 * (t * g) + t * t := by
            rw [Nat.add_mul, Nat.mul_add, Nat.mul_add, Nat.mul_comm g t]
            omega
          omega
        · obtain ⟨t, rfl⟩ : ∃ t, g = r + t := ⟨g - r, by omega⟩
          have e : r = d + t := by omega
          subst e
          have a : d * (d + t + t) = d * d + 2 * (d * t) := by
            rw [Nat.mul_add, Nat.mul_add]
            omega
          have b : (d + t) * (d + t) = d * d + 2 * (d * t) + t * t := by
            rw [Nat.add_mul, Nat.mul_add, Nat.mul_add, Nat.mul_comm t d]
            omega
          omega
      omega
  omega
theorem g48 : Good tb (tb.fn 48) 1 3 k48 := by
  refine gd48 rfl fun F μ n h => ?_
  unfold k48
  array_get_dec
  obtain ⟨hn0, hn⟩ := h
  obtain ⟨n, rfl⟩ := Int.eq_ofNat_of_zero_le (Int.le_of_lt hn0)
  have n0 : n ≠ 0 := by omega
  have hb := ibits_pos n0
  rw [hb] at hn
  have e0 : (1 : Int) * 2 ^ ((((ibits (n : Int) : Nat) : Int) + 1) / 2).toNat = ((2 ^ ((n.log2 + 2) / 2) : Nat) : Int) := by
    rw [hb, show ((((n.log2 + 1 : Nat) : Int) + 1) / 2).toNat = (n.log2 + 2) / 2 by omega]
    simp
  rw [e0]
  have i1 := ibits_1
  generalize hg0 : 2 ^ ((n.log2 + 2) / 2) = g0 at *
  have p0 : 0 < g0 := by rw [← hg0]; exact Nat.two_pow_pos _
  have lg : ∀ g : Nat, 0 < g → g < 2 ^ 600 → 0 < (g : Int) ∧ (g : Int).natAbs.log2 < 9000 := fun g h1 h2 => by
    have := log2_lt (Nat.ne_of_gt h1) h2
    refine ⟨by omega, ?_⟩
    show g.log2 < 9000
    omega
  have c0 : g0 < 2 ^ 600 := by
    rw [← hg0]
    exact Nat.pow_lt_pow_right (by decide) (by omega)
  have s0 : isqrt n ≤ g0 := by
    refine Nat.le_of_lt (isqrt_lt.mpr ?_)
    rw [← hg0, ← Nat.pow_add]
    exact Nat.lt_of_lt_of_le (log2_self n0).2 (Nat.pow_le_pow_right (by decide) (by omega))
  have t2' : (0 : Int) < 2 ∧ (Int.natAbs 2).log2 < 9000 := by decide
  have eb : ∀ g : Nat, ((g : Int) + (n : Int) / (g : Int)) / 2 = (((g + n / g) / 2 : Nat) : Int) := fun g => rfl
  refine ⟨t2', ⟨by omega, by omega⟩, lg _ p0 c0, t2', fun g s m' => m' = μ ∧ s = [some (PV.int n), some (PV.int g), some (PV.int (((g + n / g) / 2 : Nat) : Int))] ∧ isqrt n ≤ g ∧ 0 < g ∧ g < 2 ^ 600, ⟨g0, rfl, rfl, s0, p0, c0⟩, ?_⟩
  rintro g s m' ⟨rfl, rfl, h1, h2, h3⟩
  array_get_dec
  obtain ⟨q1, q2⟩ := isqrt_ok n
  have ag := amgm q1 h2
  have iq : 1 ≤ isqrt n := isqrt_ge.mpr (by omega)
  by_cases c : (((g + n / g) / 2 : Nat) : Int) < (g : Int)
  · rw [if_pos c]
    have c' : (g + n / g) / 2 < g := by omega
    refine ⟨lg _ (by omega) (by omega), t2', _, c', rfl, ag, by omega, by omega⟩
  · rw [if_neg c]
    have c' : g ≤ (g + n / g) / 2 := by omega
    have c2 : g ≤ n / g := by omega
    have c3 := (Nat.le_div_iff_mul_le h2).mp c2
    have c4 := isqrt_ge.mpr c3
    rw [Int.toNat_natCast, Nat.le_antisymm h1 c4]
theorem n45 {F : FQ} {Q : PQ} {μ : M} {k : Int} {e : Bool} : callQ (tb.fn 45) F [.int k, .bl e] μ Q ↔ (0 ≤ k ∧ ibits k ≤ 100000) ∧ ∀ w : Int, w = ((sticky k.toNat e : Nat) : Int) → Q (.int w) μ := by
  rw [c45]
  refine ⟨fun ⟨h, q⟩ => ⟨h, fun w hw => ?_⟩, fun ⟨h, q⟩ => ⟨h, q _ ?_⟩⟩
  · obtain ⟨k, rfl⟩ := Int.eq_ofNat_of_zero_le h.1
    rw [hw]
    unfold sticky
    cases e <;> exact q
  · obtain ⟨k, rfl⟩ := Int.eq_ofNat_of_zero_le h.1
    unfold sticky
    cases e <;> simp

end FH
end
section
set_option linter.all false
set_option Elab.async false
set_option maxRecDepth 10000
namespace FH
open RvNum RvMach
local macro_rules | `(tactic| array_get_dec) => `(tactic| simp -implicitDefEqProofs only [senv, List.map_cons, List.map_nil, List.length_cons, List.length_nil, Nat.reduceAdd, Nat.reduceSub, List.replicate_zero, List.replicate_succ, List.cons_append, List.nil_append, List.append_nil, List.set_cons_zero, List.set_cons_succ,
  exs, ex, ↓ev_max2, ↓ev_min2, ↓ev_abs, ev, evs, evAnd, evOr, op2, cp2, onInt, onBl, onSeq, onLst, onTup, onMach, onInts, onSome, intsOf, Option.map_some, Option.map_none, getS_0, getS_n, getS_s, setAll, atQ, fromQ, decide_eq_true_eq, Bool.not_eq_true', decide_eq_false_iff_not, Bool.true_eq_false, Bool.false_eq_true, if_true, if_false, ite_true, ite_false, outQ_ok, outQ_flt, and_true, true_and, PV.int.injEq, PV.bl.injEq, PV.tup.injEq, PV.lst.injEq, c0, c1, c2, c3, c4, c5, c6, c7, c8, c9, c10, c11, c12, c13, c14, c15, c16, c17, c18, c19, c20, c21, c22, c23, c24, c25, c26, c27, c28, c29, c30, n31, c32, c33, c34, c35, c36, c37, c38, c39, c40, c41, c42, c43, c44, n45, c46, c47, c48, c49, c50, c51, c52, c53, c54, c55, c56, c57, c58, c59, c60, c61, c62, c63, c64, c65, c67, c68, c69, c70, c71, c72, c73, c74, c75, c76, c77, c78, c79, c80, c81, c82, c83, c84, c85, c86, c87, c88, c89, c90, c91, c92, c93, c94, c95, c96, c97, c98, c99, c100, c101, c102, c103, c104, c105, c106, c107, c108, c109, c110, c111, c112, c113, c114, c115, c116, c117, c118, c119, c120, c121, c122, c123, c124, c125, c126, c127, c128, c129, c130, c131, c132, c133, c134, c135, tc0, tc1, tc2, tc3, tc4, tc5, tc6, tc7, tc8, tc9, tc10, tc11, tc12, tc13, tc14, tc15, tc16, tc17, tc18, tc19, tc20, tc21, tc22, tc23, tc24, tc25, tc26, tc27, tc28, tc29, tc30, tc31, tc32, tc33, tc34, tc35, tc36, tc37, tc38, tc39, tc40, tc41, tc42, tc43, tc44, tt0, tt1, tt2, tt3, tt4, td0, td1, List.drop_succ_cons, List.drop_zero
])
def k49t : Sts := .cons (.set 6 (.call 48 (.cons (.var 5) .nil))) (.cons (.ret (.call 35 (.cons (.var 0) (.cons (.var 1) (.cons (.int 0) (.cons (.call 45 (.cons (.var 6) (.cons (.cmp .eq (.bin .mul (.var 6) (.var 6)) (.var 5)) .nil))) (.cons (.bin .sub (.bin .fdiv (.bin .sub (.var 3) (.var 4)) (.int 2)) (.int 1)) .nil))))))) .nil)
theorem k49_eq : k49 = .cons (.set 4 (.max2 (.int 0) (.bin .sub (.bin .mul (.int 2) (.call 44 (.cons (.var 0) .nil))) (.bits (.var 2))))) (.cons (.set 4 (.bin .add (.var 4) (.bin .mod (.bin .sub (.var 3) (.var 4)) (.int 2)))) (.cons (.set 5 (.bin .shl (.var 2) (.var 4))) k49t)) := rfl
theorem g49t {F : FQ} {μ : M} {f m n k w v : Int} {R : PQ} (h : (0 < v ∧ ibits v ≤ 1000) ∧ (okF f ∧ okM0 m ∧ (-2000 ≤ k - w ∧ k - w ≤ 2000)) ∧
    R (t2 (round (fm f) m.toNat false (ratio (sticky (isqrt v.toNat) (decide (isqrt v.toNat * isqrt v.toNat = v.toNat))) 1 ((k - w) / 2 - 1)))) μ) : exs tb F k49t [some (.int f), some (.int m), some (.int n), some (.int k), some (.int w), some (.int v), none] μ (fun _ _ => False) R := by
  unfold k49t
  array_get_dec
  obtain ⟨hv, ⟨hf, hm, hk⟩, hr⟩ := h
  obtain ⟨v, rfl⟩ := Int.eq_ofNat_of_zero_le (Int.le_of_lt hv.1)
  simp only [Int.toNat_natCast] at hr ⊢
  obtain ⟨q1, q2⟩ := isqrt_ok v
  have v0 : v ≠ 0 := by omega
  have iq : 1 ≤ isqrt v := isqrt_ge.mpr (by omega)
  have iv : ibits ((isqrt v : Nat) : Int) ≤ 1000 := ibits_mono hv.2 (by
    rcases Nat.lt_or_ge v (isqrt v) with z | z
    · have : isqrt v * isqrt v ≥ isqrt v * 1 := Nat.mul_le_mul_left _ iq
      omega
    · exact z)
  have e : ∀ i : Decidable (((isqrt v : Nat) : Int) * ((isqrt v : Nat) : Int) = (v : Int)), @decide _ i = decide (isqrt v * isqrt v = v) := fun i => by
    rw [decide_eq_decide, ← Int.natCast_mul]
    omega
  rw [e]
  have is := sticky_ib (decide (isqrt v * isqrt v = v)) iv
  have sp := (sticky_log (q := isqrt v) (by omega) (decide (isqrt v * isqrt v = v))).2
  refine ⟨hv, by omega, ⟨Int.natCast_nonneg _, by omega⟩, fun u hu => ⟨by decide, ?_⟩⟩
  subst hu
  exact ⟨⟨hf, hm, .inl rfl, ⟨by omega, by omega⟩, by omega, by omega⟩, by simpa using hr⟩
theorem g49h {F : FQ} {μ : M} {f m n k : Int} {R : PQ} {tl : Sts} (hf : okF f) (hn0 : 0 < n) (hn : ibits n ≤ 100) (hk : -1200 ≤ k ∧ k ≤ 1200)
    (h : ∀ sh : Nat, sh ≤ 200 → (k - sh) % 2 = 0 → 2 * ((fm f).fbits + 2) ≤ n.toNat.log2 + 1 + sh → exs tb F tl [some (.int f), some (.int m), some (.int n), some (.int k), some (.int sh), some (.int ((n.toNat * 2 ^ sh : Nat) : Int)), none] μ (fun _ _ => False) R) :
    exs tb F (.cons (.set 4 (.max2 (.int 0) (.bin .sub (.bin .mul (.int 2) (.call 44 (.cons (.var 0) .nil))) (.bits (.var 2))))) (.cons (.set 4 (.bin .add (.var 4) (.bin .mod (.bin .sub (.var 3) (.var 4)) (.int 2)))) (.cons (.set 5 (.bin .shl (.var 2) (.var 4))) tl))) (senv 7 [.int f, .int m, .int n, .int k]) μ (fun _ _ => False) R := by
  array_get_dec
  obtain ⟨n, rfl⟩ := Int.eq_ofNat_of_zero_le (Int.le_of_lt hn0)
  have n0 : n ≠ 0 := by omega
  have hb := ibits_pos n0
  have H := isF hf
  have h2 := H.f2
  refine ⟨hf, ?_, fun w hw => ?_⟩
  · have := ibits_le (n := (fm f).fbits + 2) (k := 64) (Nat.lt_of_lt_of_le (m := 64) (by omega) (by decide))
    have i2 : ibits 2 = 2 := by decide
    have e : (((fm f).fbits + 2 : Nat) : Int) = ((fm f).fbits : Int) + 2 := by omega
    rw [e] at this
    omega
  · obtain ⟨sh, hs⟩ : ∃ sh : Nat, w + (k - w) % 2 = sh := ⟨(w + (k - w) % 2).toNat, by omega⟩
    have s1 : sh ≤ 200 := by omega
    rw [hs, Int.toNat_natCast, shl_nat]
    refine ⟨by decide, ⟨by omega, by omega⟩, ?_⟩
    have := h sh s1 (by omega) (by rw [Int.toNat_natCast]; omega)
    rw [Int.toNat_natCast] at this
    exact this
theorem g49 : Good tb (tb.fn 49) 4 7 k49 := by
  refine gd49 rfl fun F μ f m n k h => ?_
  rw [k49_eq]
  obtain ⟨hf, hm, ⟨hn0, hn⟩, hk⟩ := h
  refine g49h hf hn0 hn hk fun sh s1 s2 s3 => ?_
  obtain ⟨n, rfl⟩ := Int.eq_ofNat_of_zero_le (Int.le_of_lt hn0)
  have n0 : n ≠ 0 := by omega
  rw [Int.toNat_natCast] at s3 ⊢
  have ia := ib_shl (i := sh) (k := 200) hn s1
  have pos : 0 < n * 2 ^ sh := Nat.mul_pos (Nat.pos_of_ne_zero n0) (Nat.two_pow_pos _)
  refine g49t ⟨⟨by omega, by omega⟩, ⟨hf, hm, by omega, by omega⟩, ?_⟩
  rw [Int.toNat_natCast, root_round n0 (h := (k - sh) / 2) (sh := sh) (by omega) (by omega)]
  exact ⟨rfl, rfl⟩

end FH
end
section
set_option linter.all false
set_option Elab.async false
set_option maxRecDepth 10000
namespace FH
open RvNum RvMach
local macro_rules | `(tactic| array_get_dec) => `(tactic| simp -implicitDefEqProofs only [senv, List.map_cons, List.map_nil, List.length_cons, List.length_nil, Nat.reduceAdd, Nat.reduceSub, List.replicate_zero, List.replicate_succ, List.cons_append, List.nil_append, List.append_nil, List.set_cons_zero, List.set_cons_succ,
  exs, ex, ↓ev_max2, ↓ev_min2, ↓ev_abs, ev, evs, evAnd, evOr, op2, cp2, onInt, onBl, onSeq, onLst, onTup, onMach, onInts, onSome, intsOf, Option.map_some, Option.map_none, getS_0, getS_n, getS_s, setAll, atQ, fromQ, decide_eq_true_eq, Bool.not_eq_true', decide_eq_false_iff_not, Bool.true_eq_false, Bool.false_eq_true, if_true, if_false, ite_true, ite_false, outQ_ok, outQ_flt, and_true, true_and, PV.int.injEq, PV.bl.injEq, PV.tup.injEq, PV.lst.injEq, c0, c1, c2, c3, c4, c5, c6, c7, c8, c9, c10, c11, c12, c13, c14, c15, c16, c17, c18, c19, c20, c21, c22, c23, c24, c25, c26, c27, c28, c29, c30, n31, c32, c33, c34, c35, c36, c37, c38, c39, c40, c41, c42, c43, c44, c45, c46, c47, c48, c49, c50, c51, c52, c53, c54, c55, c56, c57, c58, c59, c60, c61, c62, c63, c64, c65, c67, c68, c69, c70, c71, c72, c73, c74, c75, c76, c77, c78, c79, c80, c81, c82, c83, c84, c85, c86, c87, c88, c89, c90, c91, c92, c93, c94, c95, c96, c97, c98, c99, c100, c101, c102, c103, c104, c105, c106, c107, c108, c109, c110, c111, c112, c113, c114, c115, c116, c117, c118, c119, c120, c121, c122, c123, c124, c125, c126, c127, c128, c129, c130, c131, c132, c133, c134, c135, tc0, tc1, tc2, tc3, tc4, tc5, tc6, tc7, tc8, tc9, tc10, tc11, tc12, tc13, tc14, tc15, tc16, tc17, tc18, tc19, tc20, tc21, tc22, tc23, tc24, tc25, tc26, tc27, tc28, tc29, tc30, tc31, tc32, tc33, tc34, tc35, tc36, tc37, tc38, tc39, tc40, tc41, tc42, tc43, tc44, tt0, tt1, tt2, tt3, tt4, td0, td1, List.drop_succ_cons, List.drop_zero
])
/-! whole numbers -/
theorem iOr_nn (x y : Nat) : iOr (x : Int) (y : Int) = ((x ||| y : Nat) : Int) := by
  have e : ∀ n : Nat, iNot (iNot (n : Int)) = n := fun n => by unfold iNot; omega
  have n1 : ∀ n : Nat, decide (0 ≤ iNot (n : Int)) = false := fun n => by
    rw [decide_eq_false_iff_not]
    unfold iNot
    omega
  unfold iOr
  have h : iAnd (iNot (x : Int)) (iNot (y : Int)) = iNot (((iNot (iNot (x : Int))).toNat ||| (iNot (iNot (y : Int))).toNat : Nat) : Int) := by
    rw [iAnd, n1, n1]
  simp only [h, e, Int.toNat_natCast]
theorem or_bit {x k : Nat} (h : x < 2 ^ (k + 1)) : (2 ^ k ≤ x → x ||| 2 ^ k = x ∧ x &&& 2 ^ k = 2 ^ k) ∧ (x < 2 ^ k → x ||| 2 ^ k = x + 2 ^ k ∧ x &&& 2 ^ k = 0) := by
  have small : ∀ y, y < 2 ^ k → y ||| 2 ^ k = y + 2 ^ k ∧ y &&& 2 ^ k = 0 := fun y hy => by
    refine ⟨?_, ?_⟩
    · have := Nat.two_pow_add_eq_or_of_lt hy 1
      rw [Nat.mul_one] at this
      rw [Nat.or_comm, ← this]
      exact Nat.add_comm _ _
    · refine Nat.eq_of_testBit_eq fun i => ?_
      rw [Nat.testBit_and, Nat.testBit_two_pow]
      by_cases c : k = i
      · subst c
        rw [Nat.testBit_lt_two_pow hy]
        simp
      · simp [c]
  refine ⟨fun q => ?_, small x⟩
  have p : 2 ^ (k + 1) = 2 ^ k + 2 ^ k := by rw [Nat.pow_succ]; omega
  obtain ⟨r, rfl⟩ : ∃ r, x = r + 2 ^ k := ⟨x - 2 ^ k, by omega⟩
  have hr : r < 2 ^ k := by omega
  obtain ⟨s1, s2⟩ := small r hr
  rw [← s1]
  refine ⟨?_, ?_⟩
  · rw [Nat.or_assoc, Nat.or_self]
  · rw [Nat.and_or_distrib_right, s2, Nat.and_self, Nat.zero_or]
theorem iXor_bit {x k : Nat} (h : x < 2 ^ (k + 1)) : iXor (x : Int) ((2 ^ k : Nat) : Int) - ((2 ^ k : Nat) : Int) = if 2 ^ k ≤ x then (x : Int) - ((2 ^ (k + 1) : Nat) : Int) else (x : Int) := by
  obtain ⟨h1, h2⟩ := or_bit h
  have p : 2 ^ (k + 1) = 2 ^ k + 2 ^ k := by rw [Nat.pow_succ]; omega
  unfold iXor
  rw [iOr_nn, iAnd_nn]
  by_cases q : 2 ^ k ≤ x
  · rw [(h1 q).1, (h1 q).2, if_pos q]
    omega
  · rw [(h2 (by omega)).1, (h2 (by omega)).2, if_neg q]
    omega
theorem g53 : Good tb (tb.fn 53) 1 1 k53 := by
  refine gd53 rfl fun F μ v h => ?_
  unfold k53
  array_get_dec
  exact ⟨by decide, by decide, rfl⟩
theorem g54 : Good tb (tb.fn 54) 2 3 k54 := by
  refine gd54 rfl fun F μ v b h => ?_
  unfold k54
  array_get_dec
  obtain ⟨hv, hb⟩ := h
  obtain ⟨v, rfl⟩ := Int.eq_ofNat_of_zero_le hv
  obtain ⟨k, rfl⟩ : ∃ k : Nat, b = ((k + 1 : Nat) : Int) := ⟨(b - 1).toNat, by omega⟩
  have k63 : k ≤ 63 := by omega
  have e1 : (1 : Int) * 2 ^ (((k + 1 : Nat) : Int) - 1).toNat = ((2 ^ k : Nat) : Int) := by
    rw [show (((k + 1 : Nat) : Int) - 1).toNat = k by omega]
    simp
  rw [e1]
  have p : 2 ^ (k + 1) = 2 ^ k + 2 ^ k := by rw [Nat.pow_succ]; omega
  have pp := Nat.two_pow_pos k
  have e2 : (2 : Int) * ((2 ^ k : Nat) : Int) - 1 = ((2 ^ (k + 1) - 1 : Nat) : Int) := by omega
  rw [e2, iAnd_mask v (k + 1) rfl, iXor_bit (Nat.mod_lt _ (Nat.two_pow_pos _))]
  have i1 : ibits ((2 ^ k : Nat) : Int) ≤ k + 1 := ibits_le (Nat.pow_lt_pow_right (by decide) (Nat.lt_succ_self k))
  have i2 : ibits 2 = 2 := by decide
  have i3 := ibits_1
  refine ⟨⟨by omega, by omega⟩, by omega, ?_⟩
  unfold lowBits
  simp only [Int.toNat_natCast, Nat.add_sub_cancel, true_and]
/-! conversions -/
theorem pE_fin {f : Int} (h : okF f) {a : Nat} {s : Bool} {m : Nat} {e : Int} (q : num (fm f) a = .fin s m e) : pE (fm f) a ≤ (fm f).bias - (fm f).fbits ∧ pM (fm f) a < 2 ^ ((fm f).fbits + 1) ∧ (pM (fm f) a ≠ 0 → -1074 ≤ pE (fm f) a) := by
  have hx : expoOf (fm f) a ≠ 2 ^ (fm f).ebits - 1 := fun z => by
    unfold num at q
    rw [if_pos z] at q
    split at q <;> cases q
  unfold pE pM
  rcases isF3 h with e | e | e <;> rw [e] at hx ⊢
  · rw [expS, fS6] at hx
    replace hx : a / 8388608 % 256 ≠ 255 := hx
    rw [expS, fraS, fS5, fS7, fS8]
    split <;> refine ⟨?_, ?_, ?_⟩ <;> omega
  · rw [expD, fD6] at hx
    replace hx : a / 4503599627370496 % 2048 ≠ 2047 := hx
    rw [expD, fraD, fD5, fD7, fD8]
    split <;> refine ⟨?_, ?_, ?_⟩ <;> omega
  · rw [expH, fH6] at hx
    replace hx : a / 1024 % 32 ≠ 31 := hx
    rw [expH, fraH, fH5, fH7, fH8]
    split <;> refine ⟨?_, ?_, ?_⟩ <;> omega
theorem g55 : Good tb (tb.fn 55) 4 7 k55 := by
  refine gd55 rfl fun F μ f t m a h => ?_
  unfold k55
  array_get_dec
  obtain ⟨hf, ht, hm, ha⟩ := h
  obtain ⟨a, rfl⟩ := Int.eq_ofNat_of_zero_le ha
  have hl := zmem1 ha
  obtain ⟨h1, h2, h3⟩ := parts_ok hf a
  have hi := ibits_le h1
  have e1 : convertBits f.toNat t.toNat m.toNat a = convert (fm t) m.toNat (num (fm f) a) := by
    show convert (fm t) m.toNat (num (fm f) (a % 2 ^ (fm f).width)) = _
    rw [num_mod (isF3 hf)]
  simp only [Int.toNat_natCast, List.map_cons, List.map_nil, e1]
  rcases num_cases (F := fm f) a with ⟨s, e⟩ | e | e <;>
    simp only [e, isNan, isInf, isZero, RvNum.convert, if_true, if_false, Bool.false_eq_true, hf, ht, ha, hm, and_self, true_and, b2i_eq1, Bool.decide_eq_true, dec_b2i, sgb, t2z]
  · refine ⟨hl, ?_⟩
    cases s <;> rfl
  · rfl
  · by_cases q : pM (fm f) a = 0
    · simp [q, zero]
    · simp only [beq_eq_false_iff_ne.mpr q, q, Bool.false_eq_true, if_false]
      exact ⟨⟨⟨by omega, by omega⟩, by omega, by omega⟩, trivial⟩
/-- exact, whatever the mode -/
theorem round_exact {F : Fmt} (H : IsF F) {m m' : Nat} {neg : Bool} {q : Nat} (hq : q ≠ 0) (h0 : (ratioAt q 1 0 (place F (ratio q 1 0))).2 = 0) (ho : (q.log2 : Int) ≤ F.bias) : RvNum.round F m neg (ratio q 1 0) = RvNum.round F m' neg (ratio q 1 0) := by
  have ea : (ratio q 1 0).at_ = ratioAt q 1 0 := by rw [ratio_one q hq]
  have r0 : ∀ j, RvNum.rounded j neg (ratioAt q 1 0 (place F (ratio q 1 0))) = (ratioAt q 1 0 (place F (ratio q 1 0))).1 := fun j => by
    have : ratioAt q 1 0 (place F (ratio q 1 0)) = ((ratioAt q 1 0 (place F (ratio q 1 0))).1, 0) := by
      rw [← h0]
    rw [this, rounded_0]
  unfold RvNum.round
  dsimp only
  rw [ea, r0, r0, h0]
  have pg : place F (ratio q 1 0) = max F.unit ((q.log2 : Int) - F.fbits) := by
    unfold place
    rw [ratio_one q hq]
    dsimp only
    congr 1
    omega
  have hc : ¬ F.infinity ≤ magnitude F (ratioAt q 1 0 (place F (ratio q 1 0))).1 (place F (ratio q 1 0)) := by
    rw [pg]
    have b1 := H.b1
    have un := H.un
    intro c
    by_cases d : F.unit ≤ (q.log2 : Int) - F.fbits
    · rw [show max F.unit ((q.log2 : Int) - F.fbits) = (q.log2 : Int) - F.fbits by omega] at c
      obtain ⟨t1, t2⟩ := top_bits hq F.fbits 0 ((q.log2 : Int) - F.fbits) (by omega)
      have := (over_ok H (inf_eq F) d (Nat.le_of_lt t2) (fun _ => t1)).mpr c
      have l := log2_eq t1 t2
      rw [ibits_pos (Nat.ne_of_gt (Nat.lt_of_lt_of_le (Nat.two_pow_pos _) t1)), l] at this
      omega
    · rw [show max F.unit ((q.log2 : Int) - F.fbits) = F.unit by omega] at c
      have t := low_bits hq F.fbits 0 F.unit (by omega)
      have := (over_ok H (inf_eq F) (Int.le_refl _) (by rw [Nat.pow_succ]; omega) (fun z => absurd z (Int.lt_irrefl _))).mpr c
      have l := ibits_le t
      omega
  rw [if_neg hc, if_neg hc, if_pos rfl, if_pos rfl]
/-- a whole number out of the format is in the format -/
theorem whole_fits {f : Int} (hf : okF f) {m : Nat} {neg : Bool} {a : Nat} {e : Int} (h1 : a < 2 ^ ((fm f).fbits + 1)) (h2 : e ≤ (fm f).bias - (fm f).fbits) (hq : RvNum.rounded m neg (ratioAt a 1 e 0) ≠ 0) :
    RvNum.round (fm f) m neg (ratio (RvNum.rounded m neg (ratioAt a 1 e 0)) 1 0) = RvNum.round (fm f) 1 neg (ratio (RvNum.rounded m neg (ratioAt a 1 e 0)) 1 0) := by
  have H := isF hf
  have b1 := H.b1
  have un := H.un
  have f1 := H.f1
  have bb : (fm f).fbits ≤ (fm f).bias ∨ (fm f).fbits ≤ (fm f).bias := by
    rcases isF3 hf with z | z | z <;> rw [z]
    · rw [fS5, fS7]; omega
    · rw [fD5, fD7]; omega
    · rw [fH5, fH7]; omega
  have pg : ∀ q : Nat, q ≠ 0 → place (fm f) (ratio q 1 0) = max (fm f).unit ((q.log2 : Int) - (fm f).fbits) := fun q hq => by
    unfold place
    rw [ratio_one q hq]
    dsimp only
    congr 1
    omega
  by_cases c : 0 ≤ e
  · have er : ratioAt a 1 e 0 = (a * 2 ^ e.toNat, 0) := by
      rw [ratioAt_one, if_pos c]
      simp
    rw [er, rounded_0] at hq ⊢
    have a0 : a ≠ 0 := fun z => hq (by rw [z, Nat.zero_mul])
    obtain ⟨l1, l2⟩ := log2_self a0
    have la := log2_lt a0 h1
    have lq : (a * 2 ^ e.toNat).log2 = a.log2 + e.toNat := by
      refine log2_eq ?_ ?_
      · rw [Nat.pow_add]
        exact Nat.mul_le_mul_right _ l1
      · rw [show a.log2 + e.toNat + 1 = a.log2 + 1 + e.toNat by omega, Nat.pow_add]
        exact Nat.mul_lt_mul_of_pos_right l2 (Nat.two_pow_pos _)
    refine round_exact H hq ?_ (by rw [lq]; omega)
    rw [pg _ hq, lq, ratioAt_one]
    split
    · rfl
    · rename_i z
      dsimp only
      rw [restOf_0]
      obtain ⟨j, hj⟩ : ∃ j : Nat, e.toNat = (max (fm f).unit (((a.log2 + e.toNat : Nat) : Int) - (fm f).fbits) - 0).toNat + j := ⟨e.toNat - (max (fm f).unit (((a.log2 + e.toNat : Nat) : Int) - (fm f).fbits) - 0).toNat, by omega⟩
      generalize (max (fm f).unit (((a.log2 + e.toNat : Nat) : Int) - (fm f).fbits) - 0).toNat = i at *
      rw [hj, Nat.pow_add, Nat.mul_left_comm]
      exact Nat.mul_mod_right _ _
  · have er := ratioAt_one a e 0
    rw [if_neg c] at er
    have hle : RvNum.rounded m neg (ratioAt a 1 e 0) ≤ 2 ^ (fm f).fbits := by
      have := (rounded_le m neg (ratioAt a 1 e 0)).2
      rw [er] at this ⊢
      dsimp only at this
      have p2 : 2 * 2 ^ (fm f).fbits = 2 ^ ((fm f).fbits + 1) := by rw [Nat.pow_succ, Nat.mul_comm]
      have : a / 2 ^ (0 - e).toNat < 2 ^ (fm f).fbits := by
        rw [Nat.div_lt_iff_lt_mul (Nat.two_pow_pos _)]
        have : 2 ^ 1 ≤ 2 ^ (0 - e).toNat := Nat.pow_le_pow_right (by decide) (by omega)
        have := Nat.mul_le_mul_left (2 ^ (fm f).fbits) this
        omega
      omega
    generalize RvNum.rounded m neg (ratioAt a 1 e 0) = q at *
    have lq : q.log2 ≤ (fm f).fbits := by
      have := log2_lt (k := (fm f).fbits + 1) hq (by
        have p2 : 2 * 2 ^ (fm f).fbits = 2 ^ ((fm f).fbits + 1) := by rw [Nat.pow_succ, Nat.mul_comm]
        have := Nat.two_pow_pos (fm f).fbits
        omega)
      omega
    refine round_exact H hq ?_ (by omega)
    rw [pg _ hq, ratioAt_one, if_pos (by omega)]
theorem cut_bound {m : Nat} {neg : Bool} {a : Nat} {e : Int} (h1 : a < 2 ^ 53) (h2 : e ≤ 972) : RvNum.rounded m neg (ratioAt a 1 e 0) < 2 ^ 1026 := by
  have hy : (ratioAt a 1 e 0).1 < 2 ^ 1025 := by
    rw [ratioAt_one]
    split
    · show a * 2 ^ _ < _
      rw [show 1025 = 53 + 972 from rfl, Nat.pow_add]
      exact Nat.mul_lt_mul_of_lt_of_le h1 (Nat.pow_le_pow_right (by decide) (by omega)) (Nat.two_pow_pos _)
    · show a / 2 ^ _ < _
      exact Nat.lt_of_le_of_lt (Nat.div_le_self _ _) (Nat.lt_of_lt_of_le h1 (Nat.pow_le_pow_right (by decide) (by decide)))
  have := (rounded_le m neg (ratioAt a 1 e 0)).2
  rw [show (2 : Nat) ^ 1026 = 2 ^ 1025 + 2 ^ 1025 by rw [← Nat.two_mul, ← Nat.pow_succ']]
  have := Nat.two_pow_pos 1025
  omega
theorem g56 : Good tb (tb.fn 56) 3 8 k56 := by
  refine gd56 rfl fun F μ f m a h => ?_
  unfold k56
  array_get_dec
  obtain ⟨hf, hm, ha⟩ := h
  obtain ⟨a, rfl⟩ := Int.eq_ofNat_of_zero_le ha
  have hl := zmem1 ha
  obtain ⟨h1, h2, h3⟩ := parts_ok hf a
  have hi := ibits_le h1
  simp only [Int.toNat_natCast, List.map_cons, List.map_nil]
  rcases num_cases (F := fm f) a with ⟨s, e⟩ | e | e <;>
    simp only [e, isNan, isInf, isZero, RvNum.toIntegral, if_true, if_false, Bool.false_eq_true, hf, ha, hm, and_self, true_and, b2i_eq1, Bool.decide_eq_true, dec_b2i, sgb, t2z]
  · exact ⟨hl, trivial⟩
  · rfl
  · obtain ⟨p1, p2, _⟩ := pE_fin hf e
    have W := whole_fits hf (m := m.toNat) (neg := negOf (fm f) a) p2 p1
    have B := cut_bound (m := m.toNat) (neg := negOf (fm f) a) h1 h3
    rw [Int.neg_neg]
    generalize ratioAt (pM (fm f) a) 1 (pE (fm f) a) 0 = y at *
    generalize RvNum.rounded m.toNat (negOf (fm f) a) y = q at *
    have pre : (0 ≤ ((pM (fm f) a : Nat) : Int) ∧ ibits (pM (fm f) a : Nat) ≤ 10000) ∧ -10000 ≤ -pE (fm f) a ∧ -pE (fm f) a ≤ 10000 := ⟨⟨by omega, by omega⟩, by omega, by omega⟩
    have iq := ibits_le B
    refine ⟨pre, ?_⟩
    by_cases y2 : y.2 = 0
    · rw [if_pos y2]
      refine ⟨pre, fun w hw => ?_⟩
      subst hw
      rw [if_neg (show ¬ y.2 ≠ 0 from fun z => z y2)]
      by_cases q0 : q = 0
      · rw [if_pos (by omega), if_pos q0]
      · rw [if_neg (by omega), if_neg q0, Int.toNat_natCast, W q0]
        exact ⟨⟨⟨by omega, by omega⟩, by decide, by decide⟩, ⟨by decide, show (0 : Int) < ((2 : Nat) : Int) by decide⟩, rfl⟩
    · rw [if_neg y2]
      refine ⟨pre, fun w hw => ?_⟩
      subst hw
      rw [if_pos (show y.2 ≠ 0 from y2)]
      by_cases q0 : q = 0
      · rw [if_pos (by omega), if_pos q0]
        rfl
      · rw [if_neg (by omega), if_neg q0, Int.toNat_natCast, W q0]
        exact ⟨⟨⟨by omega, by omega⟩, by decide, by decide⟩, ⟨by decide, show (0 : Int) < ((2 : Nat) : Int) by decide⟩, rfl⟩
theorem g57 : Good tb (tb.fn 57) 3 5 k57 := by
  refine gd57 rfl fun F μ f m a h => ?_
  unfold k57
  array_get_dec
  refine ⟨h, ?_⟩
  obtain ⟨hf, hm, ha⟩ := h
  obtain ⟨a, rfl⟩ := Int.eq_ofNat_of_zero_le ha
  rw [Int.toNat_natCast]
  have key : ∃ x y : Nat, toIntegral (fm f) m.toNat true (num (fm f) a) = (x, y) ∧ toIntegral (fm f) m.toNat false (num (fm f) a) = (x, y &&& 16) := by
    rcases num_cases (F := fm f) a with ⟨s, e⟩ | e | e <;> rw [e] <;> unfold toIntegral
    · refine ⟨_, _, rfl, ?_⟩
      cases s <;> rfl
    · exact ⟨_, _, rfl, rfl⟩
    · refine ⟨_, _, rfl, ?_⟩
      dsimp only
      congr 1
      by_cases z : (ratioAt (pM (fm f) a) 1 (pE (fm f) a) 0).2 = 0
      · simp [z]
      · simp [z, NX]
  obtain ⟨x, y, e1, e2⟩ := key
  rw [e1, e2]
  unfold t2
  array_get_dec
  have : iAnd (y : Int) 16 = ((y &&& 16 : Nat) : Int) := iAnd_nn y 16
  rw [this]
theorem t8 {t : Int} (h : 0 ≤ t ∧ t ≤ 7) : t = 0 ∨ t = 1 ∨ t = 2 ∨ t = 3 ∨ t = 4 ∨ t = 5 ∨ t = 6 ∨ t = 7 := by omega
theorem g58 : Good tb (tb.fn 58) 1 1 k58 := by
  refine gd58 rfl fun F μ t h => ?_
  unfold k58
  array_get_dec
  rcases t8 h with rfl | rfl | rfl | rfl | rfl | rfl | rfl | rfl <;> exact ⟨by decide, by decide, by decide⟩
theorem g59 : Good tb (tb.fn 59) 1 1 k59 := by
  refine gd59 rfl fun F μ t h => ?_
  unfold k59
  array_get_dec
  rcases t8 h with rfl | rfl | rfl | rfl | rfl | rfl | rfl | rfl <;> exact ⟨by decide, by decide⟩
theorem g60 : Good tb (tb.fn 60) 1 1 k60 := by
  refine gd60 rfl fun F μ t h => ?_
  unfold k60
  array_get_dec
  rcases t8 h with rfl | rfl | rfl | rfl | rfl | rfl | rfl | rfl <;> first | exact ⟨by decide, by decide, by decide, by decide⟩ | exact ⟨by decide, by decide⟩
theorem g61 : Good tb (tb.fn 61) 1 1 k61 := by
  refine gd61 rfl fun F μ t h => ?_
  unfold k61
  array_get_dec
  rcases t8 h with rfl | rfl | rfl | rfl | rfl | rfl | rfl | rfl <;> exact ⟨by decide, by decide, by decide, by decide⟩
theorem wrap64 (z : Int) : z % 18446744073709551616 = ((bits64 z : Nat) : Int) := by
  unfold bits64
  rw [show ((2 ^ 64 : Nat) : Int) = 18446744073709551616 from rfl]
  omega
theorem g62 : Good tb (tb.fn 62) 2 2 k62 := by
  refine gd62 rfl fun F μ t b h => ?_
  unfold k62
  array_get_dec
  simp only [wrap64]
  cases b
  · simp only [Bool.false_eq_true, if_false]
    exact ⟨h, rfl⟩
  · simp only [if_true]
    exact ⟨h, rfl⟩
theorem g64 : Good tb (tb.fn 64) 2 2 k64 := by
  refine gd64 rfl fun F μ t v h => ?_
  unfold k64
  array_get_dec
  obtain ⟨ht, hv⟩ := h
  obtain ⟨v, rfl⟩ := Int.eq_ofNat_of_zero_le hv
  have w1 : 1 ≤ ((widthOf t.toNat : Nat) : Int) ∧ ((widthOf t.toNat : Nat) : Int) ≤ 64 := by
    rcases t8 ht with rfl | rfl | rfl | rfl | rfl | rfl | rfl | rfl <;> decide
  refine ⟨ht, ?_⟩
  cases hs : signedOf t.toNat
  · simp only [Bool.false_eq_true, if_false]
    have i1 := ibits_1
    refine ⟨ht, ⟨by omega, by omega⟩, ?_, ?_⟩
    · rw [Int.toNat_natCast, Int.one_mul, pow_nat]
      have := Nat.two_pow_pos (widthOf t.toNat)
      omega
    · unfold lowBits
      rw [Int.toNat_natCast, Int.one_mul, pow_nat, Int.toNat_natCast]
      simp
  · simp only [if_true]
    exact ⟨ht, ⟨hv, w1⟩, by rw [Int.toNat_natCast]⟩
theorem lo_hi (w : Nat) (s : Bool) : lowest w s ≤ 0 ∧ 0 ≤ highest w s := by
  have h1 := Nat.two_pow_pos w
  have h2 := Nat.two_pow_pos (w - 1)
  unfold lowest highest
  generalize 2 ^ w = x at *
  generalize 2 ^ (w - 1) = y at *
  cases s
  · simp only [Bool.false_eq_true, if_false]
    omega
  · simp only [if_true]
    omega
theorem g63 : Good tb (tb.fn 63) 4 9 k63 := by
  refine gd63 rfl fun F μ f t m a h => ?_
  unfold k63
  array_get_dec
  obtain ⟨hf, ht, hm, ha⟩ := h
  obtain ⟨a, rfl⟩ := Int.eq_ofNat_of_zero_le ha
  obtain ⟨h1, h2, h3⟩ := parts_ok hf a
  have hi := ibits_le h1
  have e1 : toWhole f.toNat t.toNat m.toNat a = (bits64 (toInt m.toNat (widthOf t.toNat) (signedOf t.toNat) (num (fm f) a)).1, (toInt m.toNat (widthOf t.toNat) (signedOf t.toNat) (num (fm f) a)).2) := by
    show (bits64 (toInt m.toNat (widthOf t.toNat) (signedOf t.toNat) (num (fm f) (a % 2 ^ (fm f).width))).1, (toInt m.toNat (widthOf t.toNat) (signedOf t.toNat) (num (fm f) (a % 2 ^ (fm f).width))).2) = _
    rw [num_mod (isF3 hf)]
  obtain ⟨l1, l2⟩ := lo_hi (widthOf t.toNat) (signedOf t.toNat)
  have pre : (0 ≤ ((pM (fm f) a : Nat) : Int) ∧ ibits (pM (fm f) a : Nat) ≤ 10000) ∧ -10000 ≤ -pE (fm f) a ∧ -pE (fm f) a ≤ 10000 := ⟨⟨by omega, by omega⟩, by omega, by omega⟩
  simp only [Int.toNat_natCast, e1, wrap64]
  rcases num_cases (F := fm f) a with ⟨s, e⟩ | e | e <;>
    simp only [e, isNan, isInf, isZero, RvNum.toInt, if_true, if_false, Bool.false_eq_true, hf, ht, ha, hm, and_self, true_and, b2i_eq1, Bool.decide_eq_true, dec_b2i, sgb, pre, Int.neg_neg, Int.toNat_natCast]
  · rfl
  · cases negOf (fm f) a <;> rfl
  · intro w hw
    subst hw
    generalize ratioAt (pM (fm f) a) 1 (pE (fm f) a) 0 = y at *
    generalize RvNum.rounded m.toNat (negOf (fm f) a) y = q at *
    generalize lowest (widthOf t.toNat) (signedOf t.toNat) = L at *
    generalize highest (widthOf t.toNat) (signedOf t.toNat) = G at *
    cases negOf (fm f) a
    · simp only [Bool.false_eq_true, if_false]
      generalize (q : Int) = z
      by_cases c1 : z < L
      · simp only [c1, if_true]
        rw [if_pos (by omega)]
        rfl
      · by_cases c2 : G < z
        · simp only [c1, c2, if_true, if_false]
          rw [if_neg (by omega)]
          rfl
        · by_cases y2 : y.2 = 0
          · simp only [c1, c2, y2, if_true, if_false]
            rfl
          · simp only [c1, c2, y2, if_false]
            rfl
    · simp only [if_true]
      generalize -(q : Int) = z
      by_cases c1 : z < L
      · simp only [c1, if_true]
        rw [if_pos (by omega)]
        rfl
      · by_cases c2 : G < z
        · simp only [c1, c2, if_true, if_false]
          rw [if_neg (by omega)]
          rfl
        · by_cases y2 : y.2 = 0
          · simp only [c1, c2, y2, if_true, if_false]
            rfl
          · simp only [c1, c2, y2, if_false]
            rfl
theorem lowBits_bound (t : Int) (ht : 0 ≤ t ∧ t ≤ 7) (v : Nat) : (lowBits (widthOf t.toNat) (signedOf t.toNat) v).natAbs < 2 ^ 65 := by
  unfold lowBits
  have w1 : widthOf t.toNat ≤ 64 := by
    rcases t8 ht with rfl | rfl | rfl | rfl | rfl | rfl | rfl | rfl <;> decide
  have p1 : 2 ^ widthOf t.toNat ≤ 2 ^ 64 := Nat.pow_le_pow_right (by decide) w1
  have p2 := Nat.mod_lt v (Nat.two_pow_pos (widthOf t.toNat))
  generalize 2 ^ widthOf t.toNat = W at *
  split
  · omega
  · omega
theorem g65 : Good tb (tb.fn 65) 4 5 k65 := by
  refine gd65 rfl fun F μ f t m v h => ?_
  unfold k65
  array_get_dec
  obtain ⟨hf, ht, hm, hv⟩ := h
  have B := lowBits_bound t ht v.toNat
  refine ⟨⟨ht, hv⟩, ?_⟩
  have e1 : fromWhole f.toNat t.toNat m.toNat v.toNat = ofInt (fm f) m.toNat (lowBits (widthOf t.toNat) (signedOf t.toNat) v.toNat) := rfl
  rw [e1]
  generalize lowBits (widthOf t.toNat) (signedOf t.toNat) v.toNat = z at *
  unfold ofInt
  have ib := ibits_le B
  by_cases z0 : z = 0
  · rw [if_pos z0, if_pos z0]
    exact ⟨⟨hf, .inl rfl⟩, rfl⟩
  · rw [if_neg z0, if_neg z0]
    by_cases zn : z < 0
    · rw [if_pos zn, decide_eq_true zn]
      intro w hw
      subst hw
      exact ⟨⟨hf, hm, .inr rfl, ⟨by omega, by omega⟩, by decide, by decide⟩, rfl⟩
    · rw [if_neg zn, decide_eq_false zn]
      intro w hw
      subst hw
      exact ⟨⟨hf, hm, .inl rfl, ⟨by omega, by omega⟩, by decide, by decide⟩, rfl⟩

end FH
end
section
set_option linter.all false
set_option Elab.async false
set_option maxRecDepth 10000
namespace FH
open RvNum RvMach
local macro_rules | `(tactic| array_get_dec) => `(tactic| simp -implicitDefEqProofs only [senv, List.map_cons, List.map_nil, List.length_cons, List.length_nil, Nat.reduceAdd, Nat.reduceSub, List.replicate_zero, List.replicate_succ, List.cons_append, List.nil_append, List.append_nil, List.set_cons_zero, List.set_cons_succ,
  exs, ex, ↓ev_max2, ↓ev_min2, ↓ev_abs, ev, evs, evAnd, evOr, op2, cp2, onInt, onBl, onSeq, onLst, onTup, onMach, onInts, onSome, intsOf, Option.map_some, Option.map_none, getS_0, getS_n, getS_s, setAll, atQ, fromQ, decide_eq_true_eq, Bool.not_eq_true', decide_eq_false_iff_not, Bool.true_eq_false, Bool.false_eq_true, if_true, if_false, ite_true, ite_false, outQ_ok, outQ_flt, and_true, true_and, PV.int.injEq, PV.bl.injEq, PV.tup.injEq, PV.lst.injEq, c0, c1, c2, c3, c4, c5, c6, c7, c8, c9, c10, c11, c12, c13, c14, c15, c16, c17, c18, c19, c20, c21, c22, c23, c24, c25, c26, c27, c28, c29, c30, n31, c32, c33, c34, c35, c36, c37, c38, c39, c40, c41, c42, c43, c44, c45, c46, c47, c48, c49, c50, c51, c52, c53, c54, c55, c56, c57, c58, c59, c60, c61, c62, c63, c64, c65, c67, c68, c69, c70, c71, c72, c73, c74, c75, c76, c77, c78, c79, c80, c81, c82, c83, c84, c85, c86, c87, c88, c89, c90, c91, c92, c93, c94, c95, c96, c97, c98, c99, c100, c101, c102, c103, c104, c105, c106, c107, c108, c109, c110, c111, c112, c113, c114, c115, c116, c117, c118, c119, c120, c121, c122, c123, c124, c125, c126, c127, c128, c129, c130, c131, c132, c133, c134, c135, tc0, tc1, tc2, tc3, tc4, tc5, tc6, tc7, tc8, tc9, tc10, tc11, tc12, tc13, tc14, tc15, tc16, tc17, tc18, tc19, tc20, tc21, tc22, tc23, tc24, tc25, tc26, tc27, tc28, tc29, tc30, tc31, tc32, tc33, tc34, tc35, tc36, tc37, tc38, tc39, tc40, tc41, tc42, tc43, tc44, tt0, tt1, tt2, tt3, tt4, td0, td1, List.drop_succ_cons, List.drop_zero
])
/-! the parts of a word -/
theorem bits_and (w lo n : Nat) {m : Int} (h : m = ((2 ^ n - 1 : Nat) : Int)) : iAnd ((w : Int) / 2 ^ lo) m = ((bitsOf w lo n : Nat) : Int) := by
  rw [shr_nat, iAnd_mask _ n h]
  rfl
theorem bits_top {w : Nat} (hw : w < 4294967296) (lo n : Nat) (h : lo + n = 32) : (w : Int) / 2 ^ lo = ((bitsOf w lo n : Nat) : Int) := by
  rw [shr_nat]
  unfold bitsOf
  rw [Nat.mod_eq_of_lt]
  rw [Nat.div_lt_iff_lt_mul (Nat.two_pow_pos _), ← Nat.pow_add, Nat.add_comm, h]
  exact hw
theorem bits_lt (w lo n : Nat) : bitsOf w lo n < 2 ^ n := Nat.mod_lt _ (Nat.two_pow_pos _)
theorem shl_b (w lo n : Nat) (k : Nat) : ((bitsOf w lo n : Nat) : Int) * 2 ^ k = ((bitsOf w lo n * 2 ^ k : Nat) : Int) := by simp
theorem g74 : Good tb (tb.fn 74) 1 1 k74 := by
  refine gd74 rfl fun F μ w h => ?_
  unfold k74
  array_get_dec
  obtain ⟨w, rfl⟩ := Int.eq_ofNat_of_zero_le h.1
  have := bits_and w 0 7 (m := 127) rfl
  rw [Int.pow_zero, Int.ediv_one] at this
  exact this
theorem g75 : Good tb (tb.fn 75) 1 1 k75 := by
  refine gd75 rfl fun F μ w h => ?_
  unfold k75
  array_get_dec
  obtain ⟨w, rfl⟩ := Int.eq_ofNat_of_zero_le h.1
  exact ⟨by decide, bits_and w 7 5 (m := 31) rfl⟩
theorem g76 : Good tb (tb.fn 76) 1 1 k76 := by
  refine gd76 rfl fun F μ w h => ?_
  unfold k76
  array_get_dec
  obtain ⟨w, rfl⟩ := Int.eq_ofNat_of_zero_le h.1
  exact ⟨by decide, bits_and w 12 3 (m := 7) rfl⟩
theorem g77 : Good tb (tb.fn 77) 1 1 k77 := by
  refine gd77 rfl fun F μ w h => ?_
  unfold k77
  array_get_dec
  obtain ⟨w, rfl⟩ := Int.eq_ofNat_of_zero_le h.1
  exact ⟨by decide, bits_and w 15 5 (m := 31) rfl⟩
theorem g78 : Good tb (tb.fn 78) 1 1 k78 := by
  refine gd78 rfl fun F μ w h => ?_
  unfold k78
  array_get_dec
  obtain ⟨w, rfl⟩ := Int.eq_ofNat_of_zero_le h.1
  exact ⟨by decide, bits_and w 20 5 (m := 31) rfl⟩
theorem g79 : Good tb (tb.fn 79) 1 1 k79 := by
  refine gd79 rfl fun F μ w h => ?_
  unfold k79
  array_get_dec
  obtain ⟨w, rfl⟩ := Int.eq_ofNat_of_zero_le h.1
  exact ⟨by decide, bits_and w 25 2 (m := 3) rfl⟩
theorem g80 : Good tb (tb.fn 80) 1 1 k80 := by
  refine gd80 rfl fun F μ w h => ?_
  unfold k80
  array_get_dec
  obtain ⟨w, rfl⟩ := Int.eq_ofNat_of_zero_le h.1
  exact ⟨by decide, bits_top (by omega) 25 7 rfl⟩
theorem g81 : Good tb (tb.fn 81) 1 1 k81 := by
  refine gd81 rfl fun F μ w h => ?_
  unfold k81
  array_get_dec
  obtain ⟨w, rfl⟩ := Int.eq_ofNat_of_zero_le h.1
  exact ⟨by decide, bits_top (by omega) 27 5 rfl⟩
theorem g82 : Good tb (tb.fn 82) 1 1 k82 := by
  refine gd82 rfl fun F μ w h => ?_
  unfold k82
  array_get_dec
  obtain ⟨w, rfl⟩ := Int.eq_ofNat_of_zero_le h.1
  exact ⟨by decide, bits_top (by omega) 27 5 rfl⟩
theorem g83 : Good tb (tb.fn 83) 1 1 k83 := by
  refine gd83 rfl fun F μ w h => ?_
  unfold k83
  array_get_dec
  obtain ⟨w, rfl⟩ := Int.eq_ofNat_of_zero_le h.1
  exact ⟨by decide, bits_top (by omega) 20 12 rfl⟩
theorem g84 : Good tb (tb.fn 84) 1 1 k84 := by
  refine gd84 rfl fun F μ w h => ?_
  unfold k84
  array_get_dec
  obtain ⟨w, rfl⟩ := Int.eq_ofNat_of_zero_le h.1
  have e : (w : Int) / 2 ^ (20 : Int).toNat = ((bitsOf w 20 12 : Nat) : Int) := bits_top (by omega) 20 12 rfl
  rw [e]
  exact ⟨by decide, ⟨Int.natCast_nonneg _, by decide, by decide⟩, by simp only [Int.toNat_natCast]; rfl⟩
theorem g85 : Good tb (tb.fn 85) 1 1 k85 := by
  refine gd85 rfl fun F μ w h => ?_
  unfold k85
  array_get_dec
  obtain ⟨w, rfl⟩ := Int.eq_ofNat_of_zero_le h.1
  have i1 := ibits_le (bits_lt w 25 7)
  simp only [Int.toNat_natCast]
  have e : ((f7Of w : Nat) : Int) * 2 ^ (5 : Int).toNat + ((rdOf w : Nat) : Int) = ((bitsOf w 25 7 * 2 ^ 5 + bitsOf w 7 5 : Nat) : Int) := by
    unfold f7Of rdOf
    rw [Int.natCast_add, ← shl_b]
    rfl
  rw [e]
  refine ⟨h, ⟨by decide, ?_⟩, h, ⟨Int.natCast_nonneg _, by decide, by decide⟩, by simp only [Int.toNat_natCast]; rfl⟩
  unfold f7Of
  omega
theorem g86 : Good tb (tb.fn 86) 1 2 k86 := by
  refine gd86 rfl fun F μ w h => ?_
  unfold k86
  array_get_dec
  obtain ⟨w, rfl⟩ := Int.eq_ofNat_of_zero_le h.1
  have e1 : (w : Int) / 2 ^ (31 : Int).toNat = ((bitsOf w 31 1 : Nat) : Int) := bits_top (by omega) 31 1 rfl
  have e2 : iAnd ((w : Int) / 2 ^ (7 : Int).toNat) 1 = ((bitsOf w 7 1 : Nat) : Int) := bits_and w 7 1 rfl
  have e3 : iAnd ((w : Int) / 2 ^ (25 : Int).toNat) 63 = ((bitsOf w 25 6 : Nat) : Int) := bits_and w 25 6 rfl
  have e4 : iAnd ((w : Int) / 2 ^ (8 : Int).toNat) 15 = ((bitsOf w 8 4 : Nat) : Int) := bits_and w 8 4 rfl
  have i1 := ibits_le (bits_lt w 31 1)
  have i2 := ibits_le (bits_lt w 7 1)
  have i3 := ibits_le (bits_lt w 25 6)
  have i4 := ibits_le (bits_lt w 8 4)
  simp only [e1, e2, e3, e4, Int.toNat_natCast]
  have f1 : ((bitsOf w 31 1 : Nat) : Int) * 2 ^ (12 : Int).toNat = ((bitsOf w 31 1 * 2 ^ 12 : Nat) : Int) := shl_b w 31 1 12
  have f2 : ((bitsOf w 7 1 : Nat) : Int) * 2 ^ (11 : Int).toNat = ((bitsOf w 7 1 * 2 ^ 11 : Nat) : Int) := shl_b w 7 1 11
  have f3 : ((bitsOf w 25 6 : Nat) : Int) * 2 ^ (5 : Int).toNat = ((bitsOf w 25 6 * 2 ^ 5 : Nat) : Int) := shl_b w 25 6 5
  have f4 : ((bitsOf w 8 4 : Nat) : Int) * 2 ^ (1 : Int).toNat = ((bitsOf w 8 4 * 2 ^ 1 : Nat) : Int) := shl_b w 8 4 1
  simp only [f1, f2, f3, f4]
  have e : ((bitsOf w 31 1 * 2 ^ 12 : Nat) : Int) + ((bitsOf w 7 1 * 2 ^ 11 : Nat) : Int) + (((bitsOf w 25 6 * 2 ^ 5 : Nat) : Int) + ((bitsOf w 8 4 * 2 ^ 1 : Nat) : Int)) = ((bitsOf w 31 1 * 2 ^ 12 + bitsOf w 7 1 * 2 ^ 11 + bitsOf w 25 6 * 2 ^ 5 + bitsOf w 8 4 * 2 : Nat) : Int) := by omega
  rw [e]
  simp only [Int.toNat_natCast]
  exact ⟨by decide, ⟨by decide, by omega⟩, by decide, ⟨by decide, by omega⟩, by decide, ⟨by decide, by omega⟩, by decide, ⟨by decide, by omega⟩, ⟨Int.natCast_nonneg _, by decide, by decide⟩, rfl⟩
theorem g87 : Good tb (tb.fn 87) 1 2 k87 := by
  refine gd87 rfl fun F μ w h => ?_
  unfold k87
  array_get_dec
  obtain ⟨w, rfl⟩ := Int.eq_ofNat_of_zero_le h.1
  have e1 : (w : Int) / 2 ^ (31 : Int).toNat = ((bitsOf w 31 1 : Nat) : Int) := bits_top (by omega) 31 1 rfl
  have e2 : iAnd ((w : Int) / 2 ^ (12 : Int).toNat) 255 = ((bitsOf w 12 8 : Nat) : Int) := bits_and w 12 8 rfl
  have e3 : iAnd ((w : Int) / 2 ^ (20 : Int).toNat) 1 = ((bitsOf w 20 1 : Nat) : Int) := bits_and w 20 1 rfl
  have e4 : iAnd ((w : Int) / 2 ^ (21 : Int).toNat) 1023 = ((bitsOf w 21 10 : Nat) : Int) := bits_and w 21 10 rfl
  have i1 := ibits_le (bits_lt w 31 1)
  have i2 := ibits_le (bits_lt w 12 8)
  have i3 := ibits_le (bits_lt w 20 1)
  have i4 := ibits_le (bits_lt w 21 10)
  simp only [e1, e2, e3, e4, Int.toNat_natCast]
  have f1 : ((bitsOf w 31 1 : Nat) : Int) * 2 ^ (20 : Int).toNat = ((bitsOf w 31 1 * 2 ^ 20 : Nat) : Int) := shl_b w 31 1 20
  have f2 : ((bitsOf w 12 8 : Nat) : Int) * 2 ^ (12 : Int).toNat = ((bitsOf w 12 8 * 2 ^ 12 : Nat) : Int) := shl_b w 12 8 12
  have f3 : ((bitsOf w 20 1 : Nat) : Int) * 2 ^ (11 : Int).toNat = ((bitsOf w 20 1 * 2 ^ 11 : Nat) : Int) := shl_b w 20 1 11
  have f4 : ((bitsOf w 21 10 : Nat) : Int) * 2 ^ (1 : Int).toNat = ((bitsOf w 21 10 * 2 ^ 1 : Nat) : Int) := shl_b w 21 10 1
  simp only [f1, f2, f3, f4]
  have e : ((bitsOf w 31 1 * 2 ^ 20 : Nat) : Int) + ((bitsOf w 12 8 * 2 ^ 12 : Nat) : Int) + (((bitsOf w 20 1 * 2 ^ 11 : Nat) : Int) + ((bitsOf w 21 10 * 2 ^ 1 : Nat) : Int)) = ((bitsOf w 31 1 * 2 ^ 20 + bitsOf w 12 8 * 2 ^ 12 + bitsOf w 20 1 * 2 ^ 11 + bitsOf w 21 10 * 2 : Nat) : Int) := by omega
  rw [e]
  simp only [Int.toNat_natCast]
  exact ⟨by decide, ⟨by decide, by omega⟩, by decide, ⟨by decide, by omega⟩, by decide, ⟨by decide, by omega⟩, by decide, ⟨by decide, by omega⟩, ⟨Int.natCast_nonneg _, by decide, by decide⟩, rfl⟩

end FH
end
section
set_option linter.all false
set_option Elab.async false
set_option maxRecDepth 10000
namespace FH
open RvNum RvMach
local macro_rules | `(tactic| array_get_dec) => `(tactic| simp -implicitDefEqProofs only [senv, List.map_cons, List.map_nil, List.length_cons, List.length_nil, Nat.reduceAdd, Nat.reduceSub, List.replicate_zero, List.replicate_succ, List.cons_append, List.nil_append, List.append_nil, List.set_cons_zero, List.set_cons_succ,
  exs, ex, ↓ev_max2, ↓ev_min2, ↓ev_abs, ev, evs, evAnd, evOr, op2, cp2, onInt, onBl, onSeq, onLst, onTup, onMach, onInts, onSome, intsOf, Option.map_some, Option.map_none, getS_0, getS_n, getS_s, setAll, atQ, fromQ, decide_eq_true_eq, Bool.not_eq_true', decide_eq_false_iff_not, Bool.true_eq_false, Bool.false_eq_true, if_true, if_false, ite_true, ite_false, outQ_ok, outQ_flt, and_true, true_and, PV.int.injEq, PV.bl.injEq, PV.tup.injEq, PV.lst.injEq, c0, c1, c2, c3, c4, c5, c6, c7, c8, c9, c10, c11, c12, c13, c14, c15, c16, c17, c18, c19, c20, c21, c22, c23, c24, c25, c26, c27, c28, c29, c30, n31, c32, c33, c34, c35, c36, c37, c38, c39, c40, c41, c42, c43, c44, c45, c46, c47, c48, c49, c50, c51, c52, c53, c54, c55, c56, c57, c58, c59, c60, c61, c62, c63, c64, c65, c67, c68, c69, c70, c71, c72, c73, c74, c75, c76, c77, c78, c79, c80, c81, c82, c83, c84, c85, c86, c87, c88, c89, c90, c91, c92, c93, c94, c95, c96, c97, c98, c99, c100, c101, c102, c103, c104, c105, c106, c107, c108, c109, c110, c111, c112, c113, c114, c115, c116, c117, c118, c119, c120, c121, c122, c123, c124, c125, c126, c127, c128, c129, c130, c131, c132, c133, c134, c135, tc0, tc1, tc2, tc3, tc4, tc5, tc6, tc7, tc8, tc9, tc10, tc11, tc12, tc13, tc14, tc15, tc16, tc17, tc18, tc19, tc20, tc21, tc22, tc23, tc24, tc25, tc26, tc27, tc28, tc29, tc30, tc31, tc32, tc33, tc34, tc35, tc36, tc37, tc38, tc39, tc40, tc41, tc42, tc43, tc44, tt0, tt1, tt2, tt3, tt4, td0, td1, List.drop_succ_cons, List.drop_zero
])
/-! the machine -/
theorem halfadd : ∀ a b : Nat, (a ^^^ b) + 2 * (a &&& b) = a + b := by
  intro a
  induction a using Nat.strongRecOn with
  | ind a ih =>
    intro b
    by_cases h0 : a = 0
    · subst h0
      simp
    · have h := ih (a / 2) (by omega) (b / 2)
      have x1 : (a ^^^ b) / 2 = a / 2 ^^^ b / 2 := Nat.xor_div_two
      have x2 : (a &&& b) / 2 = (a / 2) &&& (b / 2) := Nat.and_div_two
      have x3 : (a ^^^ b) % 2 = (a % 2) ^^^ (b % 2) := Nat.xor_mod_two_pow (n := 1)
      have x4 : (a &&& b) % 2 = (a % 2) &&& (b % 2) := Nat.and_mod_two_pow (n := 1)
      rw [← x1, ← x2] at h
      have c : (a % 2 = 0 ∨ a % 2 = 1) ∧ (b % 2 = 0 ∨ b % 2 = 1) := by omega
      have x5 : ((a % 2) ^^^ (b % 2)) + 2 * ((a % 2) &&& (b % 2)) = a % 2 + b % 2 := by
        rcases c with ⟨c | c, d | d⟩ <;> rw [c, d] <;> rfl
      rw [← x3, ← x4] at x5
      omega
theorem and_not (o n : Nat) (ho : o < 2 ^ 64) (hn : n < 2 ^ 64) : o &&& ((2 ^ 64 - 1) ^^^ n) = o - (o &&& n) := by
  rw [Nat.and_xor_distrib_left, land_mod, Nat.mod_eq_of_lt ho]
  have h := halfadd o (o &&& n)
  rw [← Nat.and_assoc, Nat.and_self] at h
  omega
theorem nI_get (l : List Nat) (i : Nat) : (nI l).getD i 0 = ((l.getD i 0 : Nat) : Int) := by
  unfold nI
  rw [List.getD_eq_getElem?_getD, List.getElem?_map, List.getD_eq_getElem?_getD]
  cases l[i]? <;> rfl
theorem nI_len (l : List Nat) : (nI l).length = l.length := List.length_map _
theorem nI_set (l : List Nat) (i : Nat) {v : Int} {n : Nat} (h : v = n) : (nI l).set i v = nI (l.set i n) := by
  subst h
  unfold nI
  rw [List.map_set]
theorem bI_get (l : List UInt8) (i : Nat) : (bI l).getD i 0 = (((l.getD i 0).toNat : Nat) : Int) := by
  unfold bI
  rw [List.getD_eq_getElem?_getD, List.getElem?_map, List.getD_eq_getElem?_getD]
  cases l[i]? <;> rfl
theorem bI_len (l : List UInt8) : (bI l).length = l.length := List.length_map _
theorem bI_set (l : List UInt8) (i : Nat) {v : Int} {n : Nat} (h : v = n) (hn : n < 256) : (bI l).set i v = bI (l.set i (UInt8.ofNat n)) := by
  subst h
  unfold bI
  rw [List.map_set]
  congr 1
  rw [UInt8.toNat_ofNat_of_lt' (by exact hn)]
theorem px (s : Mach) (g : Nat) : (enc s g).part .x = nI s.x := rfl
theorem pf (s : Mach) (g : Nat) : (enc s g).part .f = nI s.f := rfl
theorem pm (s : Mach) (g : Nat) : (enc s g).part .mem = bI s.mem := rfl
theorem lx (s : Mach) (g : Nat) (l : List Nat) : (enc s g).lay .x (nI l) = enc { s with x := l } g := rfl
theorem lf (s : Mach) (g : Nat) (l : List Nat) : (enc s g).lay .f (nI l) = enc { s with f := l } g := rfl
theorem lm (s : Mach) (g : Nat) (l : List UInt8) : (enc s g).lay .mem (bI l) = enc { s with mem := l } g := rfl
theorem fr_ (s : Mach) (g : Nat) : (enc s g).fld .frm = s.frm := rfl
theorem ff_ (s : Mach) (g : Nat) : (enc s g).fld .fflags = s.fflags := rfl
theorem fp_ (s : Mach) (g : Nat) : (enc s g).fld .pc = s.pc := rfl
theorem fc_ (s : Mach) (g : Nat) : (enc s g).fld .cause = s.cause := rfl
theorem fv_ (s : Mach) (g : Nat) : (enc s g).fld .value = s.value := rfl
theorem qr_ (s : Mach) (g : Nat) (n : Nat) : (enc s g).put .frm (n : Int) = enc { s with frm := n } g := rfl
theorem qf_ (s : Mach) (g : Nat) (n : Nat) : (enc s g).put .fflags (n : Int) = enc { s with fflags := n } g := rfl
theorem qp_ (s : Mach) (g : Nat) (n : Nat) : (enc s g).put .pc (n : Int) = enc { s with pc := n } g := rfl
theorem Inv.xlt {s : Mach} (I : Inv s) (i : Nat) : s.x.getD i 0 < 2 ^ 64 := by
  by_cases h : i < s.x.length
  · rw [List.getD_eq_getElem?_getD, List.getElem?_eq_getElem h]
    exact I.xs _ (List.getElem_mem h)
  · rw [List.getD_eq_getElem?_getD, List.getElem?_eq_none (by omega)]
    decide
theorem Inv.flt {s : Mach} (I : Inv s) (i : Nat) : s.f.getD i 0 < 2 ^ 64 := by
  by_cases h : i < s.f.length
  · rw [List.getD_eq_getElem?_getD, List.getElem?_eq_getElem h]
    exact I.fs _ (List.getElem_mem h)
  · rw [List.getD_eq_getElem?_getD, List.getElem?_eq_none (by omega)]
    decide
theorem Inv.xr {s : Mach} (I : Inv s) (i : Nat) : s.xr i = s.x.getD i 0 := by
  unfold Mach.xr
  by_cases h : i = 0
  · rw [if_pos h, h, I.x0]
  · rw [if_neg h]
theorem vwrap (v : Int) : v % 18446744073709551616 = (((v % 18446744073709551616).toNat : Nat) : Int) := by omega
theorem g67 : Good tb (tb.fn 67) 3 3 k67 := by
  refine gd67 rfl fun s g r v I h => ?_
  unfold k67
  array_get_dec
  obtain ⟨r, rfl⟩ := Int.eq_ofNat_of_zero_le h.1
  rw [px, nI_len, I.xl, Int.toNat_natCast, nI_set _ _ (vwrap v), lx]
  unfold Mach.setX mod64
  by_cases c : r = 0
  · rw [if_neg (by omega), if_pos c]
  · rw [if_pos (by omega), if_neg c, Nat.mod_eq_of_lt (by omega)]
    exact ⟨⟨by omega, by omega⟩, rfl⟩
theorem box_ok {f : Int} (hf : okF f) : ∃ b : Nat, [(18446744069414584320 : Int), 0, 18446744073709486080].getD f.toNat 0 = b ∧ b + 2 ^ (fm f).width = 2 ^ 64 ∧ b = 2 ^ (fm f).width * (2 ^ (64 - (fm f).width) - 1) := by
  rcases cat3 hf with rfl | rfl | rfl
  · exact ⟨18446744069414584320, rfl, by decide, by decide⟩
  · exact ⟨0, rfl, by decide, by decide⟩
  · exact ⟨18446744073709486080, rfl, by decide, by decide⟩
theorem box_eq {f : Int} {b v : Nat} (hb : b + 2 ^ (fm f).width = 2 ^ 64) : box f.toNat v = v % 2 ^ (fm f).width + b := by
  show v % 2 ^ (fm f).width + (2 ^ 64 - 2 ^ (fm f).width) = _
  omega
theorem unbox_eq {f : Int} (hf : okF f) {b v : Nat} (hb : b + 2 ^ (fm f).width = 2 ^ 64) (hv : v < 2 ^ 64) : unbox f.toNat v = if v < b then (fm f).canonical else v % 2 ^ (fm f).width := by
  unfold unbox
  rw [box_eq hb]
  have p := Nat.two_pow_pos (fm f).width
  have d := Nat.div_add_mod v (2 ^ (fm f).width)
  have ml := Nat.mod_lt v p
  by_cases c : v < b
  · rw [if_pos c, if_neg (by omega)]
    rfl
  · rw [if_neg c, if_pos]
    · rfl
    · obtain ⟨b', h1, h2, h3⟩ := box_ok hf
      have : b' = b := by omega
      subst this
      generalize hW : 2 ^ (fm f).width = W at *
      generalize hK : 2 ^ (64 - (fm f).width) - 1 = K at *
      have e : v / W = K := by
        refine Nat.div_eq_of_lt_le ?_ ?_
        · rw [Nat.mul_comm]
          omega
        · rw [Nat.mul_comm, Nat.mul_succ]
          omega
      rw [e] at d
      omega
theorem g68 : Good tb (tb.fn 68) 3 4 k68 := by
  refine gd68 rfl fun s g f r I h => ?_
  unfold k68
  array_get_dec
  obtain ⟨hf, hr⟩ := h
  obtain ⟨r, rfl⟩ := Int.eq_ofNat_of_zero_le hr.1
  obtain ⟨b, b1, b2, _⟩ := box_ok hf
  rw [pf, nI_len, nI_get, I.fl, b1, Int.toNat_natCast]
  have e : s.fr f.toNat r = unbox f.toNat (s.f.getD r 0) := rfl
  rw [e, unbox_eq hf b2 (I.flt r)]
  refine ⟨⟨by omega, by omega⟩, okF_lt hf, ?_⟩
  by_cases c : s.f.getD r 0 < b
  · rw [if_pos (by omega), if_pos c]
    exact ⟨hf, rfl⟩
  · rw [if_neg (by omega), if_neg c, Int.toNat_natCast]
    exact ⟨⟨hf, Int.natCast_nonneg _⟩, rfl⟩
theorem g69 : Good tb (tb.fn 69) 4 4 k69 := by
  refine gd69 rfl fun s g f r v I h => ?_
  unfold k69
  array_get_dec
  obtain ⟨hf, hr, hv⟩ := h
  obtain ⟨r, rfl⟩ := Int.eq_ofNat_of_zero_le hr.1
  obtain ⟨v, rfl⟩ := Int.eq_ofNat_of_zero_le hv.1
  obtain ⟨b, b1, b2, b3⟩ := box_ok hf
  have hv2 : v < 2 ^ (fm f).width := by
    have := hv.2
    rw [pow_nat] at this
    omega
  have o : iOr (b : Int) (v : Int) = ((box f.toNat v : Nat) : Int) := by
    rw [iOr_nn, box_eq b2, Nat.mod_eq_of_lt hv2, b3, ← Nat.two_pow_add_eq_or_of_lt hv2, Nat.add_comm]
  rw [pf, nI_len, I.fl, b1, Int.toNat_natCast, nI_set _ _ o, lf]
  exact ⟨okF_lt hf, ⟨by omega, by omega⟩, rfl⟩
theorem g70 : Good tb (tb.fn 70) 2 2 k70 := by
  refine gd70 rfl fun s g v I h => ?_
  unfold k70
  array_get_dec
  obtain ⟨v, rfl⟩ := Int.eq_ofNat_of_zero_le h.1
  rw [ff_, iOr_nn, qf_]
  rfl
theorem g73 : Good tb (tb.fn 73) 2 2 k73 := by
  refine gd73 rfl fun μ b w h => ?_
  unfold k73
  array_get_dec
  cases b <;> rfl
theorem g88 : Good tb (tb.fn 88) 2 2 k88 := by
  refine gd88 rfl fun s g q I h => ?_
  unfold k88
  array_get_dec
  rw [ff_, fr_]
  have h3 : q = 1 ∨ q = 2 ∨ q = 3 := by omega
  have i1 := ibits_le (n := s.frm) (k := 3) I.frm
  have i2 : ibits 32 = 6 := by decide
  rcases h3 with rfl | rfl | rfl
  · rw [if_pos rfl]
    rfl
  · rw [if_neg (by decide), if_pos rfl]
    rfl
  · rw [if_neg (by decide), if_neg (by decide)]
    exact ⟨by omega, rfl⟩
theorem g89 : Good tb (tb.fn 89) 3 3 k89 := by
  refine gd89 rfl fun s g q v I h => ?_
  unfold k89
  array_get_dec
  have h3 : q = 1 ∨ q = 2 ∨ q = 3 := by omega
  obtain ⟨v, rfl⟩ := Int.eq_ofNat_of_zero_le h.2
  have a1 := iAnd_mask v 5 (m := 31) rfl
  have a2 := iAnd_mask v 3 (m := 7) rfl
  have a3 := bits_and v 5 3 (m := 7) rfl
  rcases h3 with rfl | rfl | rfl
  · rw [if_pos rfl, a1, qf_]
    rfl
  · rw [if_neg (by decide), if_pos rfl, a2, qr_]
    rfl
  · rw [if_neg (by decide), if_neg (by decide), a1, qf_]
    refine ⟨by decide, ?_⟩
    have a3' : iAnd ((v : Int) / 2 ^ (5 : Int).toNat) 7 = ((bitsOf v 5 3 : Nat) : Int) := a3
    rw [a3', qr_]
    rfl
theorem g90 : Good tb (tb.fn 90) 3 3 k90 := by
  refine gd90 rfl fun F μ f o n h => ?_
  unfold k90
  array_get_dec
  obtain ⟨hf, ho, hn⟩ := h
  have h3 : f = 1 ∨ f = 2 ∨ f = 3 := by omega
  obtain ⟨o, rfl⟩ := Int.eq_ofNat_of_zero_le ho.1
  obtain ⟨n, rfl⟩ := Int.eq_ofNat_of_zero_le hn.1
  simp only [Int.toNat_natCast]
  rcases h3 with rfl | rfl | rfl
  · rfl
  · rw [if_neg (by decide), if_pos rfl, iOr_nn]
    rfl
  · rw [if_neg (by decide), if_neg (by decide)]
    have e : iNot (iNot (n : Int)) = n := by unfold iNot; omega
    have n1 : decide (0 ≤ iNot (n : Int)) = false := by
      rw [decide_eq_false_iff_not]
      unfold iNot
      omega
    have a : iAnd (o : Int) (iNot (n : Int)) = (o : Int) - (((o &&& n : Nat)) : Int) := by
      rw [iAnd, n1, decide_eq_true (Int.natCast_nonneg o)]
      simp only [e, Int.toNat_natCast]
    have b := and_not o n (by omega) (by omega)
    have c : o &&& n ≤ o := Nat.and_le_left
    rw [a]
    show _ = ((o &&& ((2 ^ 64 - 1) ^^^ n) : Nat) : Int)
    rw [b]
    omega
theorem valueOf_take (l : List UInt8) : ∀ t, t < l.length → valueOf (l.take (t + 1)) = valueOf (l.take t) + (l.getD t 0).toNat * 256 ^ t := by
  induction l with
  | nil => intro t h; cases h
  | cons c r ih =>
    intro t h
    cases t with
    | zero =>
      show c.toNat + 256 * valueOf (r.take 0) = _
      rw [List.take_zero]
      show c.toNat + 256 * 0 = 0 + c.toNat * 256 ^ 0
      omega
    | succ t =>
      have := ih t (by simpa using h)
      show c.toNat + 256 * valueOf (r.take (t + 1)) = c.toNat + 256 * valueOf (r.take t) + (r.getD t 0).toNat * 256 ^ (t + 1)
      have e : 256 * ((r.getD t 0).toNat * 256 ^ t) = (r.getD t 0).toNat * (256 ^ t * 256) := by rw [Nat.mul_left_comm, Nat.mul_comm 256]
      rw [this, Nat.pow_succ, Nat.mul_add, e]
      omega
theorem g71 : Good tb (tb.fn 71) 3 5 k71 := by
  refine gd71 rfl fun s g a n I h => ?_
  unfold k71
  array_get_dec
  obtain ⟨h1, h2, h3, h4⟩ := h
  obtain ⟨a, rfl⟩ := Int.eq_ofNat_of_zero_le h1
  obtain ⟨n, rfl⟩ := Int.eq_ofNat_of_zero_le h2
  simp only [Int.toNat_natCast]
  have ml := I.ml
  refine ⟨⟨by omega, by omega⟩, fun t σ m' => m' = enc s g ∧ t ≤ n ∧ ∃ o, σ = [some .mach, some (.int (a : Nat)), some (.int (n : Nat)), some (.int ((valueOf ((s.mem.drop a).take t) : Nat) : Int)), o], ⟨rfl, by omega, _, rfl⟩, ?_⟩
  rintro t σ m' ⟨rfl, ht, o, rfl⟩
  by_cases c : t < n
  · rw [if_pos c]
    array_get_dec
    rw [pm, bI_len, bI_get, ml, show ((a : Int) + (t : Int)).toNat = a + t by omega]
    have i8 := ibits_le (n := (s.mem.getD (a + t) 0).toNat) (k := 8) (UInt8.toNat_lt _)
    have e8 : ibits 8 = 4 := by decide
    have et := ibits_le (n := t) (k := 4) (by omega)
    refine ⟨⟨by omega, by omega⟩, by omega, ⟨by omega, by omega⟩, by omega, ?_⟩
    have V := valueOf_take (s.mem.drop a) t (by rw [List.length_drop]; omega)
    have G : (s.mem.drop a).getD t 0 = s.mem.getD (a + t) 0 := by
      rw [List.getD_eq_getElem?_getD, List.getElem?_drop, ← List.getD_eq_getElem?_getD]
    have P : (2 : Int) ^ (8 * (t : Int)).toNat = ((256 ^ t : Nat) : Int) := by
      rw [show (8 * (t : Int)).toNat = 8 * t by omega, pow_nat, Nat.pow_mul]
    rw [V, G, P, ← Int.natCast_mul, ← Int.natCast_add]
    exact ⟨_, rfl⟩
  · rw [if_neg c]
    array_get_dec
    have : t = n := by omega
    subst this
    rfl
theorem bytesOf_succ : ∀ n v, bytesOf (n + 1) v = bytesOf n v ++ [UInt8.ofNat (v / 256 ^ n % 256)]
  | 0, v => by
    show [UInt8.ofNat (v % 256)] = [] ++ [UInt8.ofNat (v / 256 ^ 0 % 256)]
    rw [Nat.pow_zero, Nat.div_one]
    rfl
  | n + 1, v => by
    show UInt8.ofNat (v % 256) :: bytesOf (n + 1) (v / 256) = (UInt8.ofNat (v % 256) :: bytesOf n (v / 256)) ++ _
    rw [bytesOf_succ n, Nat.div_div_eq_div_mul, Nat.pow_succ, Nat.mul_comm 256]
    rfl
theorem bytesOf_len : ∀ n v, (bytesOf n v).length = n
  | 0, _ => rfl
  | n + 1, v => by
    show (bytesOf n (v / 256)).length + 1 = n + 1
    rw [bytesOf_len n]
theorem set_mid {α : Type} (l bs : List α) (a t : Nat) (x : α) (hb : bs.length = t) (h : a + t < l.length) : (l.take a ++ (bs ++ l.drop (a + t))).set (a + t) x = l.take a ++ ((bs ++ [x]) ++ l.drop (a + (t + 1))) := by
  have ha : (l.take a).length = a := by rw [List.length_take]; omega
  rw [List.set_append_right (a + t) x (by omega), ha, show a + t - a = t by omega]
  rw [List.set_append_right t x (by omega), hb, Nat.sub_self, List.drop_eq_getElem_cons h, List.set_cons_zero, List.append_assoc]
  rfl
theorem g72 : Good tb (tb.fn 72) 4 5 k72 := by
  refine gd72 rfl fun s g a n v I h => ?_
  unfold k72
  array_get_dec
  obtain ⟨h1, h2, h3, h4, h5⟩ := h
  obtain ⟨a, rfl⟩ := Int.eq_ofNat_of_zero_le h1
  obtain ⟨n, rfl⟩ := Int.eq_ofNat_of_zero_le h2
  obtain ⟨v, rfl⟩ := Int.eq_ofNat_of_zero_le h5
  simp only [Int.toNat_natCast]
  have ml := I.ml
  refine ⟨⟨by omega, by omega⟩, fun t σ m' => m' = enc { s with mem := s.mem.take a ++ (bytesOf t v ++ s.mem.drop (a + t)) } g ∧ t ≤ n ∧ ∃ o, σ = [some .mach, some (.int (a : Nat)), some (.int (n : Nat)), some (.int (v : Nat)), o], ⟨?_, by omega, _, rfl⟩, ?_⟩
  · show enc s g = enc { s with mem := s.mem.take a ++ ([] ++ s.mem.drop a) } g
    rw [List.nil_append, List.take_append_drop]
  rintro t σ m' ⟨rfl, ht, o, rfl⟩
  by_cases c : t < n
  · rw [if_pos c]
    array_get_dec
    have e8 : ibits 8 = 4 := by decide
    have et := ibits_le (n := t) (k := 4) (by omega)
    have L : (s.mem.take a ++ (bytesOf t v ++ s.mem.drop (a + t))).length = 4096 := by
      simp only [List.length_append, List.length_take, List.length_drop, bytesOf_len]
      omega
    have P : (2 : Int) ^ (8 * (t : Int)).toNat = ((256 ^ t : Nat) : Int) := by
      rw [show (8 * (t : Int)).toNat = 8 * t by omega, pow_nat, Nat.pow_mul]
    have A : iAnd ((v : Int) / 2 ^ (8 * (t : Int)).toNat) 255 = ((v / 256 ^ t % 256 : Nat) : Int) := by
      rw [P]
      exact iAnd_mask (v / 256 ^ t) 8 (m := 255) rfl
    rw [pm, bI_len, A, show ((a : Int) + (t : Int)).toNat = a + t by omega, bI_set _ _ rfl (Nat.mod_lt _ (by decide)), lm, L]
    refine ⟨by omega, by omega, ⟨by omega, by omega⟩, ?_, by omega, _, rfl⟩
    dsimp only
    rw [set_mid _ _ _ _ _ (bytesOf_len t v) (by omega), bytesOf_succ]
  · rw [if_neg c]
    have : t = n := by omega
    subst this
    rfl
/-! what stays of the machine -/
theorem Inv.setX {s : Mach} (I : Inv s) (r v : Nat) : Inv (s.setX r v) := by
  unfold Mach.setX
  by_cases c : r = 0
  · rw [if_pos c]
    exact I
  · rw [if_neg c]
    refine ⟨?_, fun u hu => ?_, ?_, I.fl, I.fs, I.frm, I.ffl, I.pc, I.wl, I.ws, I.ml⟩
    · show (s.x.set r _).length = 32
      rw [List.length_set, I.xl]
    · rcases List.mem_or_eq_of_mem_set hu with h | h
      · exact I.xs u h
      · rw [h]
        exact Nat.mod_lt _ (by decide)
    · show (s.x.set r _).getD 0 0 = 0
      rw [List.getD_eq_getElem?_getD, List.getElem?_set_ne c, ← List.getD_eq_getElem?_getD, I.x0]
theorem box_lt {f : Nat} (v : Nat) : box f v < 2 ^ 64 := by
  have h : bitsOfFmt f ≤ 64 := by
    unfold bitsOfFmt fmtOf
    split
    · decide
    · split <;> decide
  unfold box
  have := Nat.mod_lt v (Nat.two_pow_pos (bitsOfFmt f))
  have := Nat.pow_le_pow_right (show 0 < 2 by decide) h
  omega
theorem Inv.setFr {s : Mach} (I : Inv s) (r : Nat) {v : Nat} (hv : v < 2 ^ 64) : Inv { s with f := s.f.set r v } := by
  refine ⟨I.xl, I.xs, I.x0, ?_, fun u hu => ?_, I.frm, I.ffl, I.pc, I.wl, I.ws, I.ml⟩
  · show (s.f.set r _).length = 32
    rw [List.length_set, I.fl]
  · rcases List.mem_or_eq_of_mem_set hu with h | h
    · exact I.fs u h
    · rw [h]
      exact hv
theorem Inv.setF {s : Mach} (I : Inv s) (f r v : Nat) : Inv (s.setF f r v) := I.setFr r (box_lt v)
theorem Inv.ffl_ {s : Mach} (I : Inv s) {v : Nat} (h : v < 32) : Inv { s with fflags := v } := ⟨I.xl, I.xs, I.x0, I.fl, I.fs, I.frm, h, I.pc, I.wl, I.ws, I.ml⟩
theorem Inv.frm_ {s : Mach} (I : Inv s) {v : Nat} (h : v < 8) : Inv { s with frm := v } := ⟨I.xl, I.xs, I.x0, I.fl, I.fs, h, I.ffl, I.pc, I.wl, I.ws, I.ml⟩
theorem Inv.pc_ {s : Mach} (I : Inv s) {v : Nat} (h : v < 2 ^ 64) : Inv { s with pc := v } := ⟨I.xl, I.xs, I.x0, I.fl, I.fs, I.frm, I.ffl, h, I.wl, I.ws, I.ml⟩
theorem Inv.cv_ {s : Mach} (I : Inv s) (c v : Nat) : Inv { s with cause := c, value := v } := ⟨I.xl, I.xs, I.x0, I.fl, I.fs, I.frm, I.ffl, I.pc, I.wl, I.ws, I.ml⟩
theorem Inv.mem_ {s : Mach} (I : Inv s) {l : List UInt8} (h : l.length = 4096) : Inv { s with mem := l } := ⟨I.xl, I.xs, I.x0, I.fl, I.fs, I.frm, I.ffl, I.pc, I.wl, I.ws, h⟩
theorem Inv.words_ {s : Mach} (I : Inv s) {l : List Nat} (h : l.length ≤ 1024) (h2 : ∀ v ∈ l, v < 2 ^ 32) : Inv { s with words := l } := ⟨I.xl, I.xs, I.x0, I.fl, I.fs, I.frm, I.ffl, I.pc, h, h2, I.ml⟩
theorem Inv.raise {s : Mach} (I : Inv s) {v : Nat} (h : v < 32) : Inv (s.raise v) := I.ffl_ (Nat.or_lt_two_pow (n := 5) I.ffl h)
theorem Inv.setCsr {s : Mach} (I : Inv s) (n v : Nat) : Inv (s.setCsr n v) := by
  unfold Mach.setCsr
  split
  · exact I.ffl_ (Nat.mod_lt _ (by decide))
  · split
    · exact I.frm_ (Nat.mod_lt _ (by decide))
    · exact (I.ffl_ (v := v % 32) (Nat.mod_lt _ (by decide))).frm_ (Nat.mod_lt _ (by decide))
theorem outQ_ite {c : Prop} [Decidable c] {A B : Out} {m : M} {F : FQ} {Q : PQ} : outQ (if c then A else B, m) F Q = if c then outQ (A, m) F Q else outQ (B, m) F Q := by
  split <;> rfl
theorem n73 {F : FQ} {Q : PQ} {μ : M} {b : Bool} {w : Int} : callQ (tb.fn 73) F [.bl b, .int w] μ Q ↔ if b = true then Q .non μ else F 2 w μ := by
  rw [c73]
  cases b
  · exact ⟨fun h => h.2, fun h => ⟨trivial, h⟩⟩
  · exact ⟨fun h => h.2, fun h => ⟨trivial, h⟩⟩
theorem n95 {F : FQ} {Q : PQ} {s : Mach} {g : Nat} {w : Int} : callQ (tb.fn 95) F [.mach, .int w] (enc s g) Q ↔ (Inv s ∧ (0 ≤ w ∧ w < 4294967296)) ∧ (s.mode (f3Of w.toNat) = none → F 2 w (enc s g)) ∧ ∀ rm, s.mode (f3Of w.toNat) = some rm → Q (.int (rm : Nat)) (enc s g) := by
  rw [c95]
  refine and_congr Iff.rfl ?_
  cases h : s.mode (f3Of w.toNat) with
  | none => exact ⟨fun h => ⟨fun _ => h, fun _ e => by cases e⟩, fun h => h.1 rfl⟩
  | some rm => exact ⟨fun h => ⟨fun e => (by cases e), fun _ e => (Option.some.inj e) ▸ h⟩, fun h => h.2 rm rfl⟩

end FH
end
section
set_option linter.all false
set_option Elab.async false
set_option maxRecDepth 10000
namespace FH
open RvNum RvMach
local macro_rules | `(tactic| array_get_dec) => `(tactic| simp -implicitDefEqProofs only [senv, List.map_cons, List.map_nil, List.length_cons, List.length_nil, Nat.reduceAdd, Nat.reduceSub, List.replicate_zero, List.replicate_succ, List.cons_append, List.nil_append, List.append_nil, List.set_cons_zero, List.set_cons_succ,
  exs, ex, ↓ev_max2, ↓ev_min2, ↓ev_abs, ev, evs, evAnd, evOr, op2, cp2, onInt, onBl, onSeq, onLst, onTup, onMach, onInts, onSome, intsOf, Option.map_some, Option.map_none, getS_0, getS_n, getS_s, setAll, atQ, fromQ, decide_eq_true_eq, Bool.not_eq_true', decide_eq_false_iff_not, Bool.true_eq_false, Bool.false_eq_true, if_true, if_false, ite_true, ite_false, outQ_ok, outQ_flt, and_true, true_and, PV.int.injEq, PV.bl.injEq, PV.tup.injEq, PV.lst.injEq, c0, c1, c2, c3, c4, c5, c6, c7, c8, c9, c10, c11, c12, c13, c14, c15, c16, c17, c18, c19, c20, c21, c22, c23, c24, c25, c26, c27, c28, c29, c30, n31, c32, c33, c34, c35, c36, c37, c38, c39, c40, c41, c42, c43, c44, n45, c46, c47, c48, c49, c50, c51, c52, c53, c54, c55, c56, c57, c58, c59, c60, c61, c62, c63, c64, c65, c67, c68, c69, c70, c71, c72, n73, c74, c75, c76, c77, c78, c79, c80, c81, c82, c83, c84, c85, c86, c87, c88, c89, c90, c91, c92, c93, c94, n95, c96, c97, c98, c99, c100, c101, c102, c103, c104, c105, c106, c107, c108, c109, c110, c111, c112, c113, c114, c115, c116, c117, c118, c119, c120, c121, c122, c123, c124, c125, c126, c127, c128, c129, c130, c131, c132, c133, c134, c135, tc0, tc1, tc2, tc3, tc4, tc5, tc6, tc7, tc8, tc9, tc10, tc11, tc12, tc13, tc14, tc15, tc16, tc17, tc18, tc19, tc20, tc21, tc22, tc23, tc24, tc25, tc26, tc27, tc28, tc29, tc30, tc31, tc32, tc33, tc34, tc35, tc36, tc37, tc38, tc39, tc40, tc41, tc42, tc43, tc44, tt0, tt1, tt2, tt3, tt4, td0, td1, List.drop_succ_cons, List.drop_zero, outQ_ite, px, pf, pm, fr_, ff_, fp_, fc_, fv_, nI_get, nI_len, bI_get, bI_len, Int.toNat_natCast
])
/-! results are bits of the format -/
def OkR (F : Fmt) (p : Nat × Nat) : Prop := p.1 < 2 ^ F.width ∧ p.2 < 32
theorem sgn_lt {F : Fmt} (H : IsF F) (neg : Bool) {x : Nat} (h : x < F.signBit) : signed F neg x < 2 ^ F.width := by
  have e : 2 ^ F.width = 2 * F.signBit := by
    rw [H.sb, H.wd, Nat.add_assoc, Nat.add_comm 1, Nat.pow_succ, Nat.mul_comm]
  unfold signed
  split <;> omega
theorem inf_lt {F : Fmt} (H : F = SINGLE ∨ F = DOUBLE ∨ F = HALF) : 0 < F.infinity ∧ F.infinity < F.signBit ∧ F.canonical < 2 ^ F.width ∧ 0 < F.signBit := by
  rcases H with rfl | rfl | rfl <;> exact ⟨by decide, by decide, by decide, by decide⟩
theorem isF_of {F : Fmt} (H : F = SINGLE ∨ F = DOUBLE ∨ F = HALF) : IsF F := by
  rcases H with rfl | rfl | rfl
  · exact isF (f := 0) ⟨by decide, by decide⟩
  · exact isF (f := 1) ⟨by decide, by decide⟩
  · exact isF (f := 2) ⟨by decide, by decide⟩
section
variable {F : Fmt} (H : F = SINGLE ∨ F = DOUBLE ∨ F = HALF)
include H
theorem ok_inf (neg : Bool) : OkR F (RvNum.inf F neg) := ⟨sgn_lt (isF_of H) neg (inf_lt H).2.1, by show 0 < 32; decide⟩
theorem ok_zero (neg : Bool) : OkR F (zero F neg) := ⟨sgn_lt (isF_of H) neg (inf_lt H).2.2.2, by show 0 < 32; decide⟩
theorem ok_inv : OkR F (invalid F) := ⟨(inf_lt H).2.2.1, by show 16 < 32; decide⟩
theorem ok_nans (l : List Num) : OkR F (nans F l) := ⟨(inf_lt H).2.2.1, by unfold nans; dsimp only; split <;> decide⟩
theorem ok_round (m : Nat) (neg : Bool) (x : Exact) : OkR F (RvNum.round F m neg x) := by
  obtain ⟨i0, i1, _, _⟩ := inf_lt H
  have hI := isF_of H
  unfold RvNum.round
  dsimp only
  split
  · refine ⟨?_, show 5 < 32 by decide⟩
    dsimp only
    unfold beyond
    split
    · exact sgn_lt hI _ (by omega)
    · split
      · refine sgn_lt hI _ ?_
        split <;> omega
      · split
        · refine sgn_lt hI _ ?_
          split <;> omega
        · exact sgn_lt hI _ i1
  · refine ⟨sgn_lt hI _ (by omega), ?_⟩
    dsimp only
    split
    · decide
    · split <;> decide
theorem ok_sum (m : Nat) (s : Bool) (a : Nat) (d : Int) (t : Bool) (b : Nat) (e : Int) : OkR F (RvNum.sum F m s a d t b e) := by
  unfold RvNum.sum
  dsimp only
  split
  · exact ok_zero H _
  · exact ok_round H _ _ _
theorem ok_add (m : Nat) (x y : Num) : OkR F (RvNum.add F m x y) := by
  unfold RvNum.add
  split
  · exact ok_sum H _ _ _ _ _ _ _
  · split
    · exact ok_inf H _
    · exact ok_inv H
  · exact ok_inf H _
  · exact ok_inf H _
  · exact ok_nans H _
theorem ok_mul (m : Nat) (x y : Num) : OkR F (RvNum.mul F m x y) := by
  unfold RvNum.mul
  split
  · split
    · exact ok_zero H _
    · exact ok_round H _ _ _
  · exact ok_inf H _
  · split
    · exact ok_inv H
    · exact ok_inf H _
  · split
    · exact ok_inv H
    · exact ok_inf H _
  · exact ok_nans H _
theorem ok_div (m : Nat) (x y : Num) : OkR F (RvNum.div F m x y) := by
  unfold RvNum.div
  split
  · split
    · split
      · exact ok_inv H
      · exact ⟨(ok_inf H _).1, by show 8 < 32; decide⟩
    · split
      · exact ok_zero H _
      · exact ok_round H _ _ _
  · exact ok_inv H
  · exact ok_inf H _
  · exact ok_zero H _
  · exact ok_nans H _
theorem ok_sqrt (m : Nat) (x : Num) : OkR F (RvNum.sqrt F m x) := by
  unfold RvNum.sqrt
  split
  · split
    · exact ok_zero H _
    · split
      · exact ok_inv H
      · exact ok_round H _ _ _
  · split
    · exact ok_inv H
    · exact ok_inf H _
  · exact ok_nans H _
theorem ok_fmaInf (neg z : Bool) (x : Num) : OkR F (fmaInf F neg z x) := by
  unfold fmaInf
  split
  · exact ok_inv H
  · split
    · split
      · exact ok_inf H _
      · exact ok_inv H
    · exact ok_inf H _
    · refine ⟨(inf_lt H).2.2.1, ?_⟩
      dsimp only
      split <;> decide
theorem ok_fma (m : Nat) (x y z : Num) : OkR F (RvNum.fma F m x y z) := by
  unfold RvNum.fma
  split
  · exact ok_sum H _ _ _ _ _ _ _
  · exact ok_inf H _
  · split
    · exact ok_inf H _
    · exact ok_inv H
  · exact ok_inf H _
  · exact ok_fmaInf H _ _ _
  · exact ok_fmaInf H _ _ _
  · exact ok_nans H _
theorem ok_toIntegral (m : Nat) (nx : Bool) (x : Num) : OkR F (toIntegral F m nx x) := by
  unfold toIntegral
  split
  · exact ok_nans H _
  · exact ok_inf H _
  · refine ⟨?_, ?_⟩
    · dsimp only
      split
      · exact (ok_zero H _).1
      · exact (ok_round H _ _ _).1
    · dsimp only
      split <;> decide
theorem ok_convert (m : Nat) (x : Num) : OkR F (convert F m x) := by
  unfold convert
  split
  · exact ok_nans H _
  · exact ok_inf H _
  · split
    · exact ok_zero H _
    · exact ok_round H _ _ _
theorem ok_ofInt (m : Nat) (z : Int) : OkR F (ofInt F m z) := by
  unfold ofInt
  split
  · exact ok_zero H _
  · exact ok_round H _ _ _
theorem nv32 (p : Prop) [Decidable p] : (if p then NV else 0) < 32 := by split <;> decide
theorem ok_fmin {a b : Nat} (ha : a < 2 ^ F.width) (hb : b < 2 ^ F.width) : OkR F (fmin F a b) := by
  unfold fmin
  refine ⟨?_, nv32 H _⟩
  dsimp only
  split
  · exact (inf_lt H).2.2.1
  · split
    · exact hb
    · split
      · exact ha
      · split
        · exact ha
        · split
          · exact hb
          · split
            · exact ha
            · exact hb
theorem ok_fmax {a b : Nat} (ha : a < 2 ^ F.width) (hb : b < 2 ^ F.width) : OkR F (fmax F a b) := by
  unfold fmax
  refine ⟨?_, nv32 H _⟩
  dsimp only
  split
  · exact (inf_lt H).2.2.1
  · split
    · exact hb
    · split
      · exact ha
      · split
        · exact hb
        · split
          · exact ha
          · split
            · exact hb
            · exact ha
theorem ok_sg (neg : Bool) (a : Nat) : OkR F (signed F neg (a % F.signBit), 0) := ⟨sgn_lt (isF_of H) _ (Nat.mod_lt _ (inf_lt H).2.2.2), show 0 < 32 by decide⟩
end
theorem ok_ite {c : Prop} [Decidable c] {F : Fmt} {A B : Nat × Nat} (h1 : OkR F A) (h2 : OkR F B) : OkR F (if c then A else B) := by
  split <;> assumption
theorem ok_opl {F : Fmt} (H : F = SINGLE ∨ F = DOUBLE ∨ F = HALF) (o m a b : Nat) (x y z : Num) (ha : a < 2 ^ F.width) (hb : b < 2 ^ F.width) : OkR F (if o = 0 then RvNum.add F m x y else if o = 1 then sub F m x y else if o = 2 then mul F m x y else if o = 3 then div F m x y else if o = 4 then sqrt F m x
    else if o = 5 then fma F m x y z else if o = 6 then fma F m x y (opposite z) else if o = 7 then fma F m (opposite x) y z else if o = 8 then fma F m (opposite x) y (opposite z) else if o = 9 then fmin F a b else if o = 10 then fmax F a b
    else if o = 11 then (fsgnj F a b, 0) else if o = 12 then (fsgnjn F a b, 0) else if o = 13 then (fsgnjx F a b, 0) else if o = 14 then toIntegral F m false x else toIntegral F m true x) := by
  exact (ok_ite (ok_add H _ _ _) (ok_ite (ok_add H _ _ _) (ok_ite (ok_mul H _ _ _) (ok_ite (ok_div H _ _ _) (ok_ite (ok_sqrt H _ _) (ok_ite (ok_fma H _ _ _ _) (ok_ite (ok_fma H _ _ _ _) (ok_ite (ok_fma H _ _ _ _) (ok_ite (ok_fma H _ _ _ _) (ok_ite (ok_fmin H ha hb) (ok_ite (ok_fmax H ha hb) (ok_ite (ok_sg H _ _) (ok_ite (ok_sg H _ _) (ok_ite (ok_sg H _ _) (ok_ite (ok_toIntegral H _ _ _) (ok_toIntegral H _ _ _))))))))))))))))
theorem ok_op {f : Nat} (hf : f ≤ 2) (o m a b c : Nat) : OkR (fmtOf f) (RvNum.op f o m a b c) := by
  have H : fmtOf f = SINGLE ∨ fmtOf f = DOUBLE ∨ fmtOf f = HALF := isF3 (f := (f : Int)) ⟨by omega, by omega⟩
  have ml : ∀ x, x % 2 ^ (fmtOf f).width < 2 ^ (fmtOf f).width := fun x => Nat.mod_lt _ (Nat.two_pow_pos _)
  exact ok_opl H o m _ _ (num (fmtOf f) (a % 2 ^ (fmtOf f).width)) (num (fmtOf f) (b % 2 ^ (fmtOf f).width)) (num (fmtOf f) (c % 2 ^ (fmtOf f).width)) (ml a) (ml b)
theorem fl_cmp (kind : Nat) (x y : Num) : (if kind = 0 then answer (feq x y) else if kind = 1 then answer (flt x y) else if kind = 2 then answer (fle x y) else if kind = 3 then answer ((flt x y).1, (feq x y).2) else answer ((fle x y).1, (feq x y).2)).2 < 32 := by
  have nv : ∀ (p : Prop) [Decidable p], (if p then NV else 0) < 32 := fun p _ => by split <;> decide
  by_cases h0 : kind = 0
  · rw [if_pos h0]
    exact nv _
  by_cases h1 : kind = 1
  · rw [if_neg h0, if_pos h1]
    exact nv _
  by_cases h2 : kind = 2
  · rw [if_neg h0, if_neg h1, if_pos h2]
    exact nv _
  by_cases h3 : kind = 3
  · rw [if_neg h0, if_neg h1, if_neg h2, if_pos h3]
    exact nv _
  · rw [if_neg h0, if_neg h1, if_neg h2, if_neg h3]
    exact nv _
theorem fl_compare (f k a b : Nat) : (RvNum.compare f k a b).2 < 32 := fl_cmp k (num (fmtOf f) (a % 2 ^ (fmtOf f).width)) (num (fmtOf f) (b % 2 ^ (fmtOf f).width))
theorem fl_toInt (m w : Nat) (s : Bool) (x : Num) : (toInt m w s x).2 < 32 := by
  cases x with
  | nan _ => show 16 < 32; decide
  | inf _ => show 16 < 32; decide
  | fin n a e =>
    unfold toInt
    dsimp only
    generalize (if n = true then -((RvNum.rounded m n (ratioAt a 1 e 0) : Nat) : Int) else ((RvNum.rounded m n (ratioAt a 1 e 0) : Nat) : Int)) = z
    split
    · show 16 < 32; decide
    split
    · show 16 < 32; decide
    · show (if _ then 0 else NX) < 32
      split <;> decide
theorem fl_toWhole (f t m a : Nat) : (toWhole f t m a).2 < 32 := fl_toInt _ _ _ _

end FH
end
section
set_option linter.all false
set_option Elab.async false
set_option maxRecDepth 10000
namespace FH
open RvNum RvMach
local macro_rules | `(tactic| array_get_dec) => `(tactic| simp -implicitDefEqProofs only [senv, List.map_cons, List.map_nil, List.length_cons, List.length_nil, Nat.reduceAdd, Nat.reduceSub, List.replicate_zero, List.replicate_succ, List.cons_append, List.nil_append, List.append_nil, List.set_cons_zero, List.set_cons_succ,
  exs, ex, ↓ev_max2, ↓ev_min2, ↓ev_abs, ev, evs, evAnd, evOr, op2, cp2, onInt, onBl, onSeq, onLst, onTup, onMach, onInts, onSome, intsOf, Option.map_some, Option.map_none, getS_0, getS_n, getS_s, setAll, atQ, fromQ, decide_eq_true_eq, Bool.not_eq_true', decide_eq_false_iff_not, Bool.true_eq_false, Bool.false_eq_true, if_true, if_false, ite_true, ite_false, outQ_ok, outQ_flt, and_true, true_and, PV.int.injEq, PV.bl.injEq, PV.tup.injEq, PV.lst.injEq, c0, c1, c2, c3, c4, c5, c6, c7, c8, c9, c10, c11, c12, c13, c14, c15, c16, c17, c18, c19, c20, c21, c22, c23, c24, c25, c26, c27, c28, c29, c30, n31, c32, c33, c34, c35, c36, c37, c38, c39, c40, c41, c42, c43, c44, n45, c46, c47, c48, c49, c50, c51, c52, c53, c54, c55, c56, c57, c58, c59, c60, c61, c62, c63, c64, c65, c67, c68, c69, c70, c71, c72, n73, c74, c75, c76, c77, c78, c79, c80, c81, c82, c83, c84, c85, c86, c87, c88, c89, c90, c91, c92, c93, c94, n95, c96, c97, c98, c99, c100, c101, c102, c103, c104, c105, c106, c107, c108, c109, c110, c111, c112, c113, c114, c115, c116, c117, c118, c119, c120, c121, c122, c123, c124, c125, c126, c127, c128, c129, c130, c131, c132, c133, c134, c135, tc0, tc1, tc2, tc3, tc4, tc5, tc6, tc7, tc8, tc9, tc10, tc11, tc12, tc13, tc14, tc15, tc16, tc17, tc18, tc19, tc20, tc21, tc22, tc23, tc24, tc25, tc26, tc27, tc28, tc29, tc30, tc31, tc32, tc33, tc34, tc35, tc36, tc37, tc38, tc39, tc40, tc41, tc42, tc43, tc44, tt0, tt1, tt2, tt3, tt4, td0, td1, List.drop_succ_cons, List.drop_zero, outQ_ite, px, pf, pm, fr_, ff_, fp_, fc_, fv_, nI_get, nI_len, bI_get, bI_len, Int.toNat_natCast
])
section
variable {f : Int} (hf : okF f) (m a b c : Nat)
include hf
theorem op_0 : RvNum.op f.toNat 0 m a b c = RvNum.add (fm f) m (num (fm f) a) (num (fm f) b) := by
  show RvNum.add (fm f) m (num (fm f) (a % 2 ^ (fm f).width)) (num (fm f) (b % 2 ^ (fm f).width)) = _
  rw [num_mod (isF3 hf), num_mod (isF3 hf)]
theorem op_1 : RvNum.op f.toNat 1 m a b c = RvNum.sub (fm f) m (num (fm f) a) (num (fm f) b) := by
  show RvNum.sub (fm f) m (num (fm f) (a % 2 ^ (fm f).width)) (num (fm f) (b % 2 ^ (fm f).width)) = _
  rw [num_mod (isF3 hf), num_mod (isF3 hf)]
theorem op_2 : RvNum.op f.toNat 2 m a b c = RvNum.mul (fm f) m (num (fm f) a) (num (fm f) b) := by
  show RvNum.mul (fm f) m (num (fm f) (a % 2 ^ (fm f).width)) (num (fm f) (b % 2 ^ (fm f).width)) = _
  rw [num_mod (isF3 hf), num_mod (isF3 hf)]
theorem op_3 : RvNum.op f.toNat 3 m a b c = RvNum.div (fm f) m (num (fm f) a) (num (fm f) b) := by
  show RvNum.div (fm f) m (num (fm f) (a % 2 ^ (fm f).width)) (num (fm f) (b % 2 ^ (fm f).width)) = _
  rw [num_mod (isF3 hf), num_mod (isF3 hf)]
theorem op_4 : RvNum.op f.toNat 4 m a b c = RvNum.sqrt (fm f) m (num (fm f) a) := by
  show RvNum.sqrt (fm f) m (num (fm f) (a % 2 ^ (fm f).width)) = _
  rw [num_mod (isF3 hf)]
theorem op_14 : RvNum.op f.toNat 14 m a b c = toIntegral (fm f) m false (num (fm f) a) := by
  show toIntegral (fm f) m false (num (fm f) (a % 2 ^ (fm f).width)) = _
  rw [num_mod (isF3 hf)]
theorem op_15 : RvNum.op f.toNat 15 m a b c = toIntegral (fm f) m true (num (fm f) a) := by
  show toIntegral (fm f) m true (num (fm f) (a % 2 ^ (fm f).width)) = _
  rw [num_mod (isF3 hf)]
end
theorem ofL {l : List Int} (h : okL l) : ∃ a b c : Nat, l = [(a : Int), (b : Int), (c : Int)] := by
  obtain ⟨h0, h1, h2, h3⟩ := h
  match l, h0 with
  | [x, y, z], _ =>
    replace h1 : 0 ≤ x := h1
    replace h2 : 0 ≤ y := h2
    replace h3 : 0 ≤ z := h3
    obtain ⟨x, rfl⟩ := Int.eq_ofNat_of_zero_le h1
    obtain ⟨y, rfl⟩ := Int.eq_ofNat_of_zero_le h2
    obtain ⟨z, rfl⟩ := Int.eq_ofNat_of_zero_le h3
    exact ⟨x, y, z, rfl⟩
theorem ltt {a b c : Int} : [a, b, c].getD 0 0 = a ∧ [a, b, c].getD 1 0 = b ∧ [a, b, c].getD 2 0 = c := ⟨rfl, rfl, rfl⟩
theorem g92 : Good tb (tb.fn 92) 4 7 k92 := by
  refine gd92 rfl fun F μ f o m l h => ?_
  obtain ⟨hf, ho, hm, hl⟩ := h
  obtain ⟨a, b, c, rfl⟩ := ofL hl
  unfold k92
  array_get_dec
  simp only [ltt, Int.toNat_natCast]
  have na : ∀ n : Nat, 0 ≤ (n : Int) := fun n => Int.natCast_nonneg n
  by_cases h0 : o = 0
  · subst h0
    rw [if_pos rfl, show (0 : Int).toNat = 0 from rfl, op_0 hf]
    exact ⟨⟨hf, hm, na _, na _⟩, rfl⟩
  by_cases h1 : o = 1
  · subst h1
    rw [if_neg h0, if_pos rfl, show (1 : Int).toNat = 1 from rfl, op_1 hf]
    exact ⟨⟨hf, hm, na _, na _⟩, rfl⟩
  by_cases h2 : o = 2
  · subst h2
    rw [if_neg h0, if_neg h1, if_pos rfl, show (2 : Int).toNat = 2 from rfl, op_2 hf]
    exact ⟨⟨hf, hm, na _, na _⟩, rfl⟩
  by_cases h3 : o = 3
  · subst h3
    rw [if_neg h0, if_neg h1, if_neg h2, if_pos rfl, show (3 : Int).toNat = 3 from rfl, op_3 hf]
    exact ⟨⟨hf, hm, na _, na _⟩, rfl⟩
  by_cases h4 : o = 4
  · subst h4
    rw [if_neg h0, if_neg h1, if_neg h2, if_neg h3, if_pos rfl, show (4 : Int).toNat = 4 from rfl, op_4 hf]
    exact ⟨⟨hf, hm, na _⟩, rfl⟩
  rw [if_neg h0, if_neg h1, if_neg h2, if_neg h3, if_neg h4]
  exact ⟨⟨hf, ⟨by omega, by omega⟩, hm, na _, na _, na _⟩, trivial⟩
theorem g93 : Good tb (tb.fn 93) 4 7 k93 := by
  refine gd93 rfl fun F μ f o m l h => ?_
  obtain ⟨hf, ho, hm, hl⟩ := h
  have hl' := hl
  obtain ⟨a, b, c, rfl⟩ := ofL hl
  unfold k93
  array_get_dec
  simp only [ltt, Int.toNat_natCast]
  have na : ∀ n : Nat, 0 ≤ (n : Int) := fun n => Int.natCast_nonneg n
  by_cases h8 : o ≤ 8
  · rw [if_pos h8]
    exact ⟨hf, ⟨ho.1, h8⟩, hm, hl'⟩
  rw [if_neg h8]
  by_cases h10 : o ≤ 10
  · rw [if_pos h10]
    refine ⟨⟨hf, na _, na _⟩, ?_⟩
    have : o = 9 ∨ o = 10 := by omega
    rcases this with rfl | rfl
    · rw [if_neg (by decide)]
      rfl
    · rw [if_pos rfl]
      rfl
  rw [if_neg h10]
  by_cases h13 : o ≤ 13
  · rw [if_pos h13]
    refine ⟨⟨hf, ⟨by omega, h13⟩, na _, na _⟩, ?_⟩
    obtain ⟨q1, q2, q3⟩ := op_sgn hf a b
    have : o = 11 ∨ o = 12 ∨ o = 13 := by omega
    rcases this with rfl | rfl | rfl <;> rfl
  rw [if_neg h13]
  by_cases h14 : o = 14
  · subst h14
    rw [if_pos rfl, show (14 : Int).toNat = 14 from rfl, op_14 hf]
    exact ⟨⟨hf, hm, na _⟩, rfl⟩
  rw [if_neg h14]
  have h15 : o = 15 := by omega
  subst h15
  rw [show (15 : Int).toNat = 15 from rfl, op_15 hf]
  exact ⟨⟨hf, hm, na _⟩, rfl⟩
theorem fm_lt (w : Nat) : fmOf w < 4 := bits_lt w 25 2
theorem f3_lt (w : Nat) : f3Of w < 8 := bits_lt w 12 3
theorem rd_lt (w : Nat) : rdOf w < 32 := bits_lt w 7 5
theorem r1_lt (w : Nat) : rs1Of w < 32 := bits_lt w 15 5
theorem r2_lt (w : Nat) : rs2Of w < 32 := bits_lt w 20 5
theorem f5_lt (w : Nat) : f5Of w < 32 := bits_lt w 27 5
theorem f7_lt (w : Nat) : f7Of w < 128 := bits_lt w 25 7
theorem g94 : Good tb (tb.fn 94) 1 2 k94 := by
  refine gd94 rfl fun μ w h => ?_
  unfold k94
  array_get_dec
  refine ⟨h, ?_⟩
  by_cases c : fmOf w.toNat = 3
  · rw [if_neg (by omega), if_pos c]
  · rw [if_pos (by omega), if_neg c]
theorem g95 : Good tb (tb.fn 95) 2 3 k95 := by
  refine gd95 rfl fun s g w I h => ?_
  unfold k95
  array_get_dec
  refine ⟨h, ?_⟩
  have b := f3_lt w.toNat
  unfold Mach.mode
  by_cases c7 : f3Of w.toNat = 7
  · rw [if_pos (by omega), if_neg (show ¬ f3Of w.toNat ≤ 4 by omega)]
    by_cases d : s.frm ≤ 4
    · rw [if_pos (by omega), if_pos ⟨c7, d⟩]
    · rw [if_neg (by omega), if_neg (fun z => d z.2)]
  · rw [if_neg (by omega)]
    by_cases d : f3Of w.toNat ≤ 4
    · rw [if_pos (by omega), if_pos d]
    · rw [if_neg (by omega), if_neg d, if_neg (fun z => c7 z.1)]
theorem ofL2 {l : List Int} (h : l.length = 2) : ∃ a b : Int, l = [a, b] := by
  match l, h with
  | [x, y], _ => exact ⟨x, y, rfl⟩
theorem lt2 {a b : Int} : [a, b].getD 0 0 = a ∧ [a, b].getD 1 0 = b := ⟨rfl, rfl⟩
theorem n94 {F : FQ} {Q : PQ} {μ : M} {w : Int} : callQ (tb.fn 94) F [.int w] μ Q ↔ (0 ≤ w ∧ w < 4294967296) ∧ if fmOf w.toNat = 3 then F 2 w μ else Q (.int (fmOf w.toNat : Nat)) μ := by
  rw [c94, outQ_ite]
  exact Iff.rfl
theorem g96 : Good tb (tb.fn 96) 3 5 k96 := by
  refine gd96 rfl fun s g w l I h => ?_
  obtain ⟨hw1, hw2, h3, hl, h0, h1⟩ := h
  obtain ⟨a, b, rfl⟩ := ofL2 hl
  unfold k96
  array_get_dec
  simp only [lt2] at h0 h1 ⊢
  obtain ⟨a, rfl⟩ := Int.eq_ofNat_of_zero_le h0.1
  obtain ⟨b, rfl⟩ := Int.eq_ofNat_of_zero_le h1.1
  have r := rd_lt w.toNat
  have fl := fm_lt w.toNat
  have b32 : b < 32 := by omega
  rw [if_neg h3]
  simp only [Int.toNat_natCast]
  exact ⟨⟨hw1, hw2⟩, ⟨hw1, hw2⟩, ⟨I, ⟨by omega, by omega⟩, ⟨by omega, by omega⟩, h0⟩, ⟨I.setF _ _ _, h1⟩, rfl⟩
theorem g97 : Good tb (tb.fn 97) 3 5 k97 := by
  refine gd97 rfl fun s g w l I h => ?_
  obtain ⟨hw1, hw2, hl, h1⟩ := h
  obtain ⟨a, b, rfl⟩ := ofL2 hl
  unfold k97
  array_get_dec
  simp only [lt2] at h1 ⊢
  obtain ⟨b, rfl⟩ := Int.eq_ofNat_of_zero_le h1.1
  have r := rd_lt w.toNat
  simp only [Int.toNat_natCast]
  refine ⟨⟨hw1, hw2⟩, ⟨I, by omega, by omega⟩, ⟨I.setX _ _, h1⟩, ?_⟩
  unfold Mach.setX Mach.raise
  split <;> rfl

end FH
end
section
set_option linter.all false
set_option Elab.async false
set_option maxRecDepth 10000
namespace FH
open RvNum RvMach
local macro_rules | `(tactic| array_get_dec) => `(tactic| simp -implicitDefEqProofs only [senv, List.map_cons, List.map_nil, List.length_cons, List.length_nil, Nat.reduceAdd, Nat.reduceSub, List.replicate_zero, List.replicate_succ, List.cons_append, List.nil_append, List.append_nil, List.set_cons_zero, List.set_cons_succ,
  exs, ex, ↓ev_max2, ↓ev_min2, ↓ev_abs, ev, evs, evAnd, evOr, op2, cp2, onInt, onBl, onSeq, onLst, onTup, onMach, onInts, onSome, intsOf, Option.map_some, Option.map_none, getS_0, getS_n, getS_s, setAll, atQ, fromQ, decide_eq_true_eq, Bool.not_eq_true', decide_eq_false_iff_not, Bool.true_eq_false, Bool.false_eq_true, if_true, if_false, ite_true, ite_false, outQ_ok, outQ_flt, and_true, true_and, PV.int.injEq, PV.bl.injEq, PV.tup.injEq, PV.lst.injEq, c0, c1, c2, c3, c4, c5, c6, c7, c8, c9, c10, c11, c12, c13, c14, c15, c16, c17, c18, c19, c20, c21, c22, c23, c24, c25, c26, c27, c28, c29, c30, n31, c32, c33, c34, c35, c36, c37, c38, c39, c40, c41, c42, c43, c44, n45, c46, c47, c48, c49, c50, c51, c52, c53, c54, c55, c56, c57, c58, c59, c60, c61, c62, c63, c64, c65, c67, c68, c69, c70, c71, c72, n73, c74, c75, c76, c77, c78, c79, c80, c81, c82, c83, c84, c85, c86, c87, c88, c89, c90, c91, c92, c93, n94, n95, c96, c97, c98, c99, c100, c101, c102, c103, c104, c105, c106, c107, c108, c109, c110, c111, c112, c113, c114, c115, c116, c117, c118, c119, c120, c121, c122, c123, c124, c125, c126, c127, c128, c129, c130, c131, c132, c133, c134, c135, tc0, tc1, tc2, tc3, tc4, tc5, tc6, tc7, tc8, tc9, tc10, tc11, tc12, tc13, tc14, tc15, tc16, tc17, tc18, tc19, tc20, tc21, tc22, tc23, tc24, tc25, tc26, tc27, tc28, tc29, tc30, tc31, tc32, tc33, tc34, tc35, tc36, tc37, tc38, tc39, tc40, tc41, tc42, tc43, tc44, tt0, tt1, tt2, tt3, tt4, td0, td1, List.drop_succ_cons, List.drop_zero, outQ_ite, px, pf, pm, fr_, ff_, fp_, fc_, fv_, nI_get, nI_len, bI_get, bI_len, Int.toNat_natCast
])
theorem off_intoF (s : Mach) (g f r : Nat) (p : Nat × Nat) : off s g (intoF s f r p) = (.ok .non, enc ((s.raise p.2).setF f r p.1) g) := rfl
theorem pc_setX (s : Mach) (r v : Nat) : (s.setX r v).pc = s.pc := by
  unfold Mach.setX
  split <;> rfl
theorem off_next {s t : Mach} (g : Nat) (h : t.pc = s.pc) : off s g (nextOf t) = (.ok .non, enc t g) := by
  show (Out.ok PV.non, enc { t with pc := s.pc } g) = _
  rw [← h]
theorem off_intoX (s : Mach) (g r : Nat) (p : Nat × Nat) : off s g (intoX s r p) = (.ok .non, enc ((s.raise p.2).setX r p.1) g) := off_next g (pc_setX _ _ _)
theorem off_ill (s : Mach) (g : Nat) {w : Int} (h : 0 ≤ w) : off s g (illegal w.toNat) = (.flt 2 w, enc s g) := by
  show (Out.flt 2 ((w.toNat : Nat) : Int), enc s g) = _
  rw [Int.toNat_of_nonneg h]
theorem fr_lt {s : Mach} (I : Inv s) {f : Int} (hf : okF f) (r : Nat) : s.fr f.toNat r < 2 ^ (fm f).width := by
  obtain ⟨b, _, b2, _⟩ := box_ok hf
  show unbox f.toNat (s.f.getD r 0) < _
  rw [unbox_eq hf b2 (I.flt r)]
  split
  · exact (inf_lt (isF3 hf)).2.2.1
  · exact Nat.mod_lt _ (Nat.two_pow_pos _)
theorem n96 {F : FQ} {Q : PQ} {s : Mach} {g : Nat} {w : Int} {p : Nat × Nat} : callQ (tb.fn 96) F [.mach, .int w, t2 p] (enc s g) Q ↔ (Inv s ∧ 0 ≤ w ∧ w < 4294967296 ∧ fmOf w.toNat ≠ 3 ∧ OkR (fmtOf (fmOf w.toNat)) p) ∧ Q .non (enc ((s.raise p.2).setF (fmOf w.toNat) (rdOf w.toNat) p.1) g) := by
  unfold t2
  rw [c96, outQ_ok]
  have e1 : ([(p.1 : Int), (p.2 : Int)].getD 0 0) = (p.1 : Int) := rfl
  have e2 : ([(p.1 : Int), (p.2 : Int)].getD 1 0) = (p.2 : Int) := rfl
  have e3 : [(p.1 : Int), (p.2 : Int)].length = 2 := rfl
  rw [e1, e2, e3, Int.toNat_natCast, Int.toNat_natCast, pow_nat]
  unfold OkR
  refine and_congr ?_ Iff.rfl
  constructor
  · rintro ⟨a, b, c, d, _, e, f⟩
    exact ⟨a, b, c, d, by omega, by omega⟩
  · rintro ⟨a, b, c, d, e, f⟩
    exact ⟨a, b, c, d, rfl, ⟨by omega, by omega⟩, by omega, by omega⟩
theorem n97 {F : FQ} {Q : PQ} {s : Mach} {g : Nat} {w : Int} {p : Nat × Nat} : callQ (tb.fn 97) F [.mach, .int w, t2 p] (enc s g) Q ↔ (Inv s ∧ 0 ≤ w ∧ w < 4294967296 ∧ p.2 < 32) ∧ Q .non (enc ((s.raise p.2).setX (rdOf w.toNat) p.1) g) := by
  unfold t2
  rw [c97, outQ_ok]
  have e1 : ([(p.1 : Int), (p.2 : Int)].getD 0 0) = (p.1 : Int) := rfl
  have e2 : ([(p.1 : Int), (p.2 : Int)].getD 1 0) = (p.2 : Int) := rfl
  have e3 : [(p.1 : Int), (p.2 : Int)].length = 2 := rfl
  have e4 : (s.raise p.2).setX (rdOf w.toNat) ((p.1 : Int) % 18446744073709551616).toNat = (s.raise p.2).setX (rdOf w.toNat) p.1 := by
    unfold Mach.setX mod64
    rw [show ((p.1 : Int) % 18446744073709551616).toNat = p.1 % 2 ^ 64 by omega, Nat.mod_mod]
  rw [e1, e2, e3, Int.toNat_natCast, e4]
  refine and_congr ?_ Iff.rfl
  constructor
  · rintro ⟨a, b, c, _, e, f⟩
    exact ⟨a, b, c, by omega⟩
  · rintro ⟨a, b, c, d⟩
    exact ⟨a, b, c, rfl, by omega, by omega⟩
/-! opcode 53 -/
theorem plain_none {s : Mach} {w fm : Nat} (h : f5Of w ≠ 4 ∧ f5Of w ≠ 5 ∧ f5Of w ≠ 20 ∧ f5Of w ≠ 28 ∧ f5Of w ≠ 30) : execPlain s w fm = none := by
  obtain ⟨h1, h2, h3, h4, h5⟩ := h
  unfold execPlain
  dsimp only
  rw [if_neg (fun z => h1 z.1), if_neg (fun z => h2 z.1), if_neg h3, if_neg (fun z => h4 z.1), if_neg (fun z => h4 z.1), if_neg (fun z => h5 z.1)]
theorem xo {s : Mach} {w : Nat} (h : f5Of w ≠ 4 ∧ f5Of w ≠ 5 ∧ f5Of w ≠ 20 ∧ f5Of w ≠ 28 ∧ f5Of w ≠ 30) : execOp s w = if fmOf w = 3 then illegal w else match s.mode (f3Of w) with
    | none => illegal w
    | some rm => (execRound s w (fmOf w) rm).getD (illegal w) := by
  unfold execOp
  dsimp only
  rw [plain_none h]
  rfl
theorem er3 {s : Mach} {w fm rm : Nat} (h : f5Of w ≤ 3) : execRound s w fm rm = some (intoF s fm (rdOf w) (RvNum.op fm (f5Of w) rm (s.fr fm (rs1Of w)) (s.fr fm (rs2Of w)) 0)) := by
  unfold execRound
  dsimp only
  rw [if_pos h]
theorem er11 {s : Mach} {w fm rm : Nat} (h : f5Of w = 11) : execRound s w fm rm = if rs2Of w = 0 then some (intoF s fm (rdOf w) (RvNum.op fm 4 rm (s.fr fm (rs1Of w)) 0 0)) else none := by
  unfold execRound
  simp only [h]
  by_cases c : rs2Of w = 0 <;> simp [c]
theorem er8 {s : Mach} {w fm rm : Nat} (h : f5Of w = 8) : execRound s w fm rm = if rs2Of w ≤ 2 ∧ rs2Of w ≠ fm then some (intoF s fm (rdOf w) (convertBits (rs2Of w) fm rm (s.fr (rs2Of w) (rs1Of w)))) else if rs2Of w = 4 then some (intoF s fm (rdOf w) (RvNum.op fm 14 rm (s.fr fm (rs1Of w)) 0 0)) else if rs2Of w = 5 then some (intoF s fm (rdOf w) (RvNum.op fm 15 rm (s.fr fm (rs1Of w)) 0 0)) else none := by
  unfold execRound
  simp [h]
theorem er24 {s : Mach} {w fm rm : Nat} (h : f5Of w = 24) : execRound s w fm rm = if rs2Of w ≤ 1 then some (intoX s (rdOf w) (sext 32 (toWhole fm (4 + rs2Of w) rm (s.fr fm (rs1Of w))).1, (toWhole fm (4 + rs2Of w) rm (s.fr fm (rs1Of w))).2)) else if rs2Of w ≤ 3 then some (intoX s (rdOf w) (toWhole fm (4 + rs2Of w) rm (s.fr fm (rs1Of w)))) else none := by
  unfold execRound
  simp [h]
theorem er26 {s : Mach} {w fm rm : Nat} (h : f5Of w = 26) : execRound s w fm rm = if rs2Of w ≤ 3 then some (intoF s fm (rdOf w) (fromWhole fm (4 + rs2Of w) rm (s.xr (rs1Of w)))) else none := by
  unfold execRound
  simp [h]
theorem er_none {s : Mach} {w fm rm : Nat} (h : ¬ f5Of w ≤ 3 ∧ f5Of w ≠ 11 ∧ f5Of w ≠ 8 ∧ f5Of w ≠ 24 ∧ f5Of w ≠ 26) : execRound s w fm rm = none := by
  obtain ⟨h1, h2, h3, h4, h5⟩ := h
  unfold execRound
  simp [h1, h2, h3, h4, h5]
theorem okFm {w : Nat} (h : fmOf w ≠ 3) : okF (fmOf w : Nat) := by
  have := fm_lt w
  exact ⟨by omega, by omega⟩

end FH
end
section
set_option linter.all false
set_option Elab.async false
set_option maxRecDepth 10000
namespace FH
open RvNum RvMach
local macro_rules | `(tactic| array_get_dec) => `(tactic| simp -implicitDefEqProofs only [senv, List.map_cons, List.map_nil, List.length_cons, List.length_nil, Nat.reduceAdd, Nat.reduceSub, List.replicate_zero, List.replicate_succ, List.cons_append, List.nil_append, List.append_nil, List.set_cons_zero, List.set_cons_succ,
  exs, ex, ↓ev_max2, ↓ev_min2, ↓ev_abs, ev, evs, evAnd, evOr, op2, cp2, onInt, onBl, onSeq, onLst, onTup, onMach, onInts, onSome, intsOf, Option.map_some, Option.map_none, getS_0, getS_n, getS_s, setAll, atQ, fromQ, decide_eq_true_eq, Bool.not_eq_true', decide_eq_false_iff_not, Bool.true_eq_false, Bool.false_eq_true, if_true, if_false, ite_true, ite_false, outQ_ok, outQ_flt, and_true, true_and, PV.int.injEq, PV.bl.injEq, PV.tup.injEq, PV.lst.injEq, c0, c1, c2, c3, c4, c5, c6, c7, c8, c9, c10, c11, c12, c13, c14, c15, c16, c17, c18, c19, c20, c21, c22, c23, c24, c25, c26, c27, c28, c29, c30, n31, c32, c33, c34, c35, c36, c37, c38, c39, c40, c41, c42, c43, c44, n45, c46, c47, c48, c49, c50, c51, c52, c53, c54, c55, c56, c57, c58, c59, c60, c61, c62, c63, c64, c65, c67, c68, c69, c70, c71, c72, n73, c74, c75, c76, c77, c78, c79, c80, c81, c82, c83, c84, c85, c86, c87, c88, c89, c90, c91, c92, c93, n94, n95, c96, c97, c98, c99, c100, c101, c102, c103, c104, c105, c106, c107, c108, c109, c110, c111, c112, c113, c114, c115, c116, c117, c118, c119, c120, c121, c122, c123, c124, c125, c126, c127, c128, c129, c130, c131, c132, c133, c134, c135, tc0, tc1, tc2, tc3, tc4, tc5, tc6, tc7, tc8, tc9, tc10, tc11, tc12, tc13, tc14, tc15, tc16, tc17, tc18, tc19, tc20, tc21, tc22, tc23, tc24, tc25, tc26, tc27, tc28, tc29, tc30, tc31, tc32, tc33, tc34, tc35, tc36, tc37, tc38, tc39, tc40, tc41, tc42, tc43, tc44, tt0, tt1, tt2, tt3, tt4, td0, td1, List.drop_succ_cons, List.drop_zero, outQ_ite, px, pf, pm, fr_, ff_, fp_, fc_, fv_, nI_get, nI_len, bI_get, bI_len, Int.toNat_natCast
, n96, n97])
theorem n99 {F : FQ} {Q : PQ} {s : Mach} {g : Nat} {w o m : Int} : callQ (tb.fn 99) F [.mach, .int w, .int o, .int m] (enc s g) Q ↔ (Inv s ∧ 0 ≤ w ∧ w < 4294967296 ∧ (0 ≤ o ∧ o ≤ 15) ∧ okM0 m) ∧ if fmOf w.toNat = 3 then F 2 w (enc s g) else
    Q .non (enc ((s.raise (RvNum.op (fmOf w.toNat) o.toNat m.toNat (s.fr (fmOf w.toNat) (rs1Of w.toNat)) (s.fr (fmOf w.toNat) (rs2Of w.toNat)) 0).2).setF (fmOf w.toNat) (rdOf w.toNat) (RvNum.op (fmOf w.toNat) o.toNat m.toNat (s.fr (fmOf w.toNat) (rs1Of w.toNat)) (s.fr (fmOf w.toNat) (rs2Of w.toNat)) 0).1) g) := by
  rw [c99]
  refine and_congr Iff.rfl ?_
  by_cases c : fmOf w.toNat = 3
  · rw [if_pos c, if_pos c]
    exact Iff.rfl
  · rw [if_neg c, if_neg c, off_intoF]
    exact Iff.rfl
theorem g99 : Good tb (tb.fn 99) 4 6 k99 := by
  refine gd99 rfl fun s g w o m I h => ?_
  unfold k99
  array_get_dec
  obtain ⟨hw1, hw2, ho, hm⟩ := h
  refine ⟨⟨hw1, hw2⟩, ?_⟩
  by_cases c : fmOf w.toNat = 3
  · rw [if_pos c, if_pos c]
  · rw [if_neg c]
    have hf := okFm c
    have r1 := r1_lt w.toNat
    have r2 := r2_lt w.toNat
    simp only [if_neg c, off_intoF, ltt]
    refine ⟨⟨hw1, hw2⟩, ⟨I, hf, by omega, by omega⟩, ⟨hw1, hw2⟩, ⟨I, hf, by omega, by omega⟩, ⟨hf, ho, hm, rfl, Int.natCast_nonneg _, Int.natCast_nonneg _, Int.le_refl _⟩, ?_⟩
    array_get_dec
    have fl := fm_lt w.toNat
    exact ⟨⟨I, hw1, hw2, c, ok_op (by omega) _ _ _ _ _⟩, rfl⟩
theorem mode_le {s : Mach} {f3 rm : Nat} (h : s.mode f3 = some rm) : rm ≤ 4 := by
  unfold Mach.mode at h
  split at h
  · cases h
    assumption
  · split at h
    · cases h
      rename_i c
      exact c.2
    · cases h
theorem xo_3 {s : Mach} {w : Nat} (c : fmOf w = 3) : execOp s w = illegal w := by
  unfold execOp
  dsimp only
  rw [if_pos c]
theorem xo_plain {s : Mach} {w : Nat} {o : Outcome} (c : fmOf w ≠ 3) (h : execPlain s w (fmOf w) = some o) : execOp s w = o := by
  unfold execOp
  dsimp only
  rw [if_neg c, h]
theorem xo_mn {s : Mach} {w : Nat} (h : f5Of w ≠ 4 ∧ f5Of w ≠ 5 ∧ f5Of w ≠ 20 ∧ f5Of w ≠ 28 ∧ f5Of w ≠ 30) (hm : s.mode (f3Of w) = none) : execOp s w = illegal w := by
  rw [xo h, hm]
  split <;> rfl
theorem xo_rn {s : Mach} {w : Nat} (h : f5Of w ≠ 4 ∧ f5Of w ≠ 5 ∧ f5Of w ≠ 20 ∧ f5Of w ≠ 28 ∧ f5Of w ≠ 30) (hr : ∀ rm, execRound s w (fmOf w) rm = none) : execOp s w = illegal w := by
  rw [xo h]
  split
  · rfl
  · split
    · rfl
    · rw [hr]
      rfl
theorem xo_rs {s : Mach} {w rm : Nat} {o : Outcome} (h : f5Of w ≠ 4 ∧ f5Of w ≠ 5 ∧ f5Of w ≠ 20 ∧ f5Of w ≠ 28 ∧ f5Of w ≠ 30) (c : fmOf w ≠ 3) (hm : s.mode (f3Of w) = some rm) (hr : execRound s w (fmOf w) rm = some o) : execOp s w = o := by
  rw [xo h, if_neg c, hm]
  show (execRound s w (fmOf w) rm).getD (illegal w) = o
  rw [hr]
  rfl
/-- none of the plain ones -/
theorem xo_pn {s : Mach} {w : Nat} (c : fmOf w ≠ 3) (hp : execPlain s w (fmOf w) = none) (hr : ∀ rm, execRound s w (fmOf w) rm = none) : execOp s w = illegal w := by
  unfold execOp
  dsimp only
  rw [if_neg c, hp]
  dsimp only
  split
  · rfl
  · rw [hr]
    rfl

end FH
end
section
set_option linter.all false
set_option Elab.async false
set_option maxRecDepth 10000
namespace FH
open RvNum RvMach
local macro_rules | `(tactic| array_get_dec) => `(tactic| simp -implicitDefEqProofs only [senv, List.map_cons, List.map_nil, List.length_cons, List.length_nil, Nat.reduceAdd, Nat.reduceSub, List.replicate_zero, List.replicate_succ, List.cons_append, List.nil_append, List.append_nil, List.set_cons_zero, List.set_cons_succ,
  exs, ex, ↓ev_max2, ↓ev_min2, ↓ev_abs, ev, evs, evAnd, evOr, op2, cp2, onInt, onBl, onSeq, onLst, onTup, onMach, onInts, onSome, intsOf, Option.map_some, Option.map_none, getS_0, getS_n, getS_s, setAll, atQ, fromQ, decide_eq_true_eq, Bool.not_eq_true', decide_eq_false_iff_not, Bool.true_eq_false, Bool.false_eq_true, if_true, if_false, ite_true, ite_false, outQ_ok, outQ_flt, and_true, true_and, PV.int.injEq, PV.bl.injEq, PV.tup.injEq, PV.lst.injEq, c0, c1, c2, c3, c4, c5, c6, c7, c8, c9, c10, c11, c12, c13, c14, c15, c16, c17, c18, c19, c20, c21, c22, c23, c24, c25, c26, c27, c28, c29, c30, n31, c32, c33, c34, c35, c36, c37, c38, c39, c40, c41, c42, c43, c44, n45, c46, c47, c48, c49, c50, c51, c52, c53, c54, c55, c56, c57, c58, c59, c60, c61, c62, c63, c64, c65, c67, c68, c69, c70, c71, c72, n73, c74, c75, c76, c77, c78, c79, c80, c81, c82, c83, c84, c85, c86, c87, c88, c89, c90, c91, c92, c93, n94, n95, c96, c97, c98, n99, c100, c101, c102, c103, c104, c105, c106, c107, c108, c109, c110, c111, c112, c113, c114, c115, c116, c117, c118, c119, c120, c121, c122, c123, c124, c125, c126, c127, c128, c129, c130, c131, c132, c133, c134, c135, tc0, tc1, tc2, tc3, tc4, tc5, tc6, tc7, tc8, tc9, tc10, tc11, tc12, tc13, tc14, tc15, tc16, tc17, tc18, tc19, tc20, tc21, tc22, tc23, tc24, tc25, tc26, tc27, tc28, tc29, tc30, tc31, tc32, tc33, tc34, tc35, tc36, tc37, tc38, tc39, tc40, tc41, tc42, tc43, tc44, tt0, tt1, tt2, tt3, tt4, td0, td1, List.drop_succ_cons, List.drop_zero, outQ_ite, px, pf, pm, fr_, ff_, fp_, fc_, fv_, nI_get, nI_len, bI_get, bI_len, Int.toNat_natCast
, n96, n97])
theorem g101 : Good tb (tb.fn 101) 2 2 k101 := by
  refine gd101 rfl fun s g w I h => ?_
  obtain ⟨hw1, hw2, h5⟩ := h
  have np : f5Of w.toNat ≠ 4 ∧ f5Of w.toNat ≠ 5 ∧ f5Of w.toNat ≠ 20 ∧ f5Of w.toNat ≠ 28 ∧ f5Of w.toNat ≠ 30 := by omega
  have ill := off_ill s g hw1
  unfold k101
  array_get_dec
  refine ⟨⟨hw1, hw2⟩, ?_⟩
  by_cases r : rs2Of w.toNat = 0
  · rw [if_pos (by omega)]
    refine ⟨⟨I, hw1, hw2⟩, fun hm => by rw [xo_mn np hm, ill], fun rm hm => ⟨⟨I, hw1, hw2, by decide, Int.natCast_nonneg _, by have := mode_le hm; omega⟩, ?_⟩⟩
    by_cases c : fmOf w.toNat = 3
    · rw [if_pos c, xo_3 c, ill]
    · rw [if_neg c, xo_rs np c hm (by rw [er11 h5, if_pos r]), off_intoF]
      rfl
  · rw [if_neg (by omega), xo_rn np (fun rm => by rw [er11 h5, if_neg r]), ill]
theorem g100 : Good tb (tb.fn 100) 3 3 k100 := by
  refine gd100 rfl fun s g w l I h => ?_
  obtain ⟨hw1, hw2, h5⟩ := h
  have ill := off_ill s g hw1
  have f3 := f3_lt w.toNat
  unfold k100
  rcases h5 with ⟨h5, rfl⟩ | ⟨h5, rfl⟩
  · array_get_dec
    refine ⟨⟨hw1, hw2⟩, ?_⟩
    by_cases b : f3Of w.toNat ≤ 2
    · rw [if_pos (by show ((f3Of w.toNat : Nat) : Int) < ((3 : Nat) : Int); omega)]
      have e : [(11 : Int), 12, 13].getD (f3Of w.toNat) 0 = ((11 + f3Of w.toNat : Nat) : Int) := by
        have : f3Of w.toNat = 0 ∨ f3Of w.toNat = 1 ∨ f3Of w.toNat = 2 := by omega
        rcases this with q | q | q <;> rw [q] <;> rfl
      rw [e]
      refine ⟨⟨hw1, hw2⟩, ⟨Int.natCast_nonneg _, by show ((f3Of w.toNat : Nat) : Int) < ((3 : Nat) : Int); omega⟩, ⟨I, hw1, hw2, ⟨by omega, by omega⟩, by decide, by decide⟩, ?_⟩
      by_cases c : fmOf w.toNat = 3
      · rw [if_pos c, xo_3 c, ill]
      · rw [if_neg c, xo_plain c (o := intoF s (fmOf w.toNat) (rdOf w.toNat) (RvNum.op (fmOf w.toNat) (11 + f3Of w.toNat) 0 (s.fr (fmOf w.toNat) (rs1Of w.toNat)) (s.fr (fmOf w.toNat) (rs2Of w.toNat)) 0)) (by unfold execPlain; dsimp only; rw [if_pos ⟨h5, b⟩]), off_intoF]
        rfl
    · rw [if_neg (by show ¬ ((f3Of w.toNat : Nat) : Int) < ((3 : Nat) : Int); omega)]
      by_cases c : fmOf w.toNat = 3
      · rw [xo_3 c, ill]
      · rw [xo_pn c (by unfold execPlain; simp [h5, b]) (fun rm => er_none (by omega)), ill]
  · array_get_dec
    refine ⟨⟨hw1, hw2⟩, ?_⟩
    by_cases b : f3Of w.toNat ≤ 1
    · rw [if_pos (by show ((f3Of w.toNat : Nat) : Int) < ((2 : Nat) : Int); omega)]
      have e : [(9 : Int), 10].getD (f3Of w.toNat) 0 = ((9 + f3Of w.toNat : Nat) : Int) := by
        have : f3Of w.toNat = 0 ∨ f3Of w.toNat = 1 := by omega
        rcases this with q | q <;> rw [q] <;> rfl
      rw [e]
      refine ⟨⟨hw1, hw2⟩, ⟨Int.natCast_nonneg _, by show ((f3Of w.toNat : Nat) : Int) < ((2 : Nat) : Int); omega⟩, ⟨I, hw1, hw2, ⟨by omega, by omega⟩, by decide, by decide⟩, ?_⟩
      by_cases c : fmOf w.toNat = 3
      · rw [if_pos c, xo_3 c, ill]
      · rw [if_neg c, xo_plain c (o := intoF s (fmOf w.toNat) (rdOf w.toNat) (RvNum.op (fmOf w.toNat) (9 + f3Of w.toNat) 0 (s.fr (fmOf w.toNat) (rs1Of w.toNat)) (s.fr (fmOf w.toNat) (rs2Of w.toNat)) 0)) (by unfold execPlain; dsimp only; rw [if_neg (fun z => by omega), if_pos ⟨h5, b⟩]), off_intoF]
        rfl
    · rw [if_neg (by show ¬ ((f3Of w.toNat : Nat) : Int) < ((2 : Nat) : Int); omega)]
      by_cases c : fmOf w.toNat = 3
      · rw [xo_3 c, ill]
      · rw [xo_pn c (by unfold execPlain; simp [h5, b]) (fun rm => er_none (by omega)), ill]
theorem g102 : Good tb (tb.fn 102) 2 5 k102 := by
  refine gd102 rfl fun s g w I h => ?_
  obtain ⟨hw1, hw2, h5⟩ := h
  have np : f5Of w.toNat ≠ 4 ∧ f5Of w.toNat ≠ 5 ∧ f5Of w.toNat ≠ 20 ∧ f5Of w.toNat ≠ 28 ∧ f5Of w.toNat ≠ 30 := by omega
  have ill := off_ill s g hw1
  unfold k102
  array_get_dec
  refine ⟨⟨hw1, hw2⟩, ?_⟩
  by_cases c : fmOf w.toNat = 3
  · rw [if_pos c, xo_3 c, ill]
  rw [if_neg c]
  have hf := okFm c
  have r1 := r1_lt w.toNat
  have fl := fm_lt w.toNat
  refine ⟨⟨I, hw1, hw2⟩, fun hm => by rw [xo_mn np hm, ill], fun rm hm => ⟨⟨hw1, hw2⟩, ?_⟩⟩
  have m4 := mode_le hm
  have okm : okM0 (rm : Int) := ⟨by omega, by omega⟩
  by_cases r4 : rs2Of w.toNat = 4
  · rw [r4, if_pos (by decide), if_neg c, xo_rs np c hm (by rw [er8 h5, if_neg (by omega), if_pos r4]), off_intoF]
    exact ⟨⟨I, hw1, hw2, by decide, okm⟩, rfl⟩
  by_cases r5 : rs2Of w.toNat = 5
  · rw [r5, if_pos (by decide), if_neg c, xo_rs np c hm (by rw [er8 h5, if_neg (by omega), if_neg r4, if_pos r5]), off_intoF]
    exact ⟨⟨I, hw1, hw2, by decide, okm⟩, rfl⟩
  have nc : ¬ [(4 : Int), 5].contains ((rs2Of w.toNat : Nat) : Int) = true := by
    simp only [List.contains_cons, List.contains_nil, Bool.or_false, Bool.or_eq_true, beq_iff_eq]
    omega
  rw [if_neg nc]
  by_cases a : rs2Of w.toNat ≤ 2
  · rw [if_pos (by omega)]
    by_cases b : rs2Of w.toNat = fmOf w.toNat
    · rw [if_neg (by omega), xo_rn np (fun rm => by rw [er8 h5, if_neg (fun z => z.2 b), if_neg r4, if_neg r5]), ill]
    · rw [if_pos (by omega)]
      have hr : okF ((rs2Of w.toNat : Nat) : Int) := ⟨by omega, by omega⟩
      rw [xo_rs np c hm (by rw [er8 h5, if_pos ⟨a, b⟩]), off_intoF]
      exact ⟨⟨hw1, hw2⟩, ⟨I, hr, by omega, by omega⟩, ⟨hr, hf, okm, Int.natCast_nonneg _⟩, ⟨I, hw1, hw2, c, ok_convert (isF3 hf) _ _⟩, rfl⟩
  · rw [if_neg (by omega), xo_rn np (fun rm => by rw [er8 h5, if_neg (fun z => a z.1), if_neg r4, if_neg r5]), ill]
theorem g103 : Good tb (tb.fn 103) 2 5 k103 := by
  refine gd103 rfl fun s g w I h => ?_
  obtain ⟨hw1, hw2, h5⟩ := h
  have ill := off_ill s g hw1
  unfold k103
  array_get_dec
  refine ⟨⟨hw1, hw2⟩, ?_⟩
  by_cases c : fmOf w.toNat = 3
  · rw [if_pos c, xo_3 c, ill]
  rw [if_neg c]
  have hf := okFm c
  have r1 := r1_lt w.toNat
  have r2 := r2_lt w.toNat
  refine ⟨⟨hw1, hw2⟩, ?_⟩
  have f3 := f3_lt w.toNat
  have tail : ∀ (kz : Int), 0 ≤ kz ∧ kz ≤ 4 → kindOf (f3Of w.toNat) = some kz.toNat → (0 ≤ w ∧ w < 4294967296) ∧ (Inv s ∧ okF ((fmOf w.toNat : Nat) : Int) ∧ 0 ≤ ((rs1Of w.toNat : Nat) : Int) ∧ ((rs1Of w.toNat : Nat) : Int) < 32) ∧ (0 ≤ w ∧ w < 4294967296) ∧ (Inv s ∧ okF ((fmOf w.toNat : Nat) : Int) ∧ 0 ≤ ((rs2Of w.toNat : Nat) : Int) ∧ ((rs2Of w.toNat : Nat) : Int) < 32) ∧ (0 ≤ w ∧ w < 4294967296) ∧
      callQ (tb.fn 27) (fun i j' m' => off s g (execOp s w.toNat) = (Out.flt i j', m')) [PV.int ((fmOf w.toNat : Nat) : Int), .int kz, PV.int ((s.fr (fmOf w.toNat) (rs1Of w.toNat) : Nat) : Int), PV.int ((s.fr (fmOf w.toNat) (rs2Of w.toNat) : Nat) : Int)] (enc s g) fun x m1 =>
        callQ (tb.fn 97) (fun i j' m' => off s g (execOp s w.toNat) = (Out.flt i j', m')) [PV.mach, PV.int w, x] m1 fun x m1 => off s g (execOp s w.toNat) = (Out.ok PV.non, m1) := fun kz hk hkind => by
    refine ⟨⟨hw1, hw2⟩, ⟨I, hf, by omega, by omega⟩, ⟨hw1, hw2⟩, ⟨I, hf, by omega, by omega⟩, ⟨hw1, hw2⟩, ?_⟩
    have X : execOp s w.toNat = intoX s (rdOf w.toNat) (RvNum.compare (fmOf w.toNat) kz.toNat (s.fr (fmOf w.toNat) (rs1Of w.toNat)) (s.fr (fmOf w.toNat) (rs2Of w.toNat))) := by
      refine xo_plain c ?_
      unfold execPlain
      simp [h5, hkind]
    rw [X, off_intoX]
    array_get_dec
    refine ⟨⟨hf, hk, Int.natCast_nonneg _, Int.natCast_nonneg _⟩, I, hw1, hw2, fl_compare _ _ _ _⟩
  have bad : kindOf (f3Of w.toNat) = none → off s g (execOp s w.toNat) = (Out.flt 2 w, enc s g) := fun hk => by
    rw [xo_pn c (by unfold execPlain; simp [h5, hk]) (fun rm => er_none (by omega)), ill]
  generalize hz : f3Of w.toNat = z at *
  have hz8 : z = 0 ∨ z = 1 ∨ z = 2 ∨ z = 3 ∨ z = 4 ∨ z = 5 ∨ z = 6 ∨ z = 7 := by omega
  rcases hz8 with rfl | rfl | rfl | rfl | rfl | rfl | rfl | rfl
  · exact tail 2 (by decide) rfl
  · exact tail 1 (by decide) rfl
  · exact tail 0 (by decide) rfl
  · exact bad rfl
  · exact tail 4 (by decide) rfl
  · exact tail 3 (by decide) rfl
  · exact bad rfl
  · exact bad rfl

end FH
end
section
set_option linter.all false
set_option Elab.async false
set_option maxRecDepth 10000
namespace FH
open RvNum RvMach
local macro_rules | `(tactic| array_get_dec) => `(tactic| simp -implicitDefEqProofs only [senv, List.map_cons, List.map_nil, List.length_cons, List.length_nil, Nat.reduceAdd, Nat.reduceSub, List.replicate_zero, List.replicate_succ, List.cons_append, List.nil_append, List.append_nil, List.set_cons_zero, List.set_cons_succ,
  exs, ex, ↓ev_max2, ↓ev_min2, ↓ev_abs, ev, evs, evAnd, evOr, op2, cp2, onInt, onBl, onSeq, onLst, onTup, onMach, onInts, onSome, intsOf, Option.map_some, Option.map_none, getS_0, getS_n, getS_s, setAll, atQ, fromQ, decide_eq_true_eq, Bool.not_eq_true', decide_eq_false_iff_not, Bool.true_eq_false, Bool.false_eq_true, if_true, if_false, ite_true, ite_false, outQ_ok, outQ_flt, and_true, true_and, PV.int.injEq, PV.bl.injEq, PV.tup.injEq, PV.lst.injEq, c0, c1, c2, c3, c4, c5, c6, c7, c8, c9, c10, c11, c12, c13, c14, c15, c16, c17, c18, c19, c20, c21, c22, c23, c24, c25, c26, c27, c28, c29, c30, n31, c32, c33, c34, c35, c36, c37, c38, c39, c40, c41, c42, c43, c44, n45, c46, c47, c48, c49, c50, c51, c52, c53, c54, c55, c56, c57, c58, c59, c60, c61, c62, c63, c64, c65, c67, c68, c69, c70, c71, c72, n73, c74, c75, c76, c77, c78, c79, c80, c81, c82, c83, c84, c85, c86, c87, c88, c89, c90, c91, c92, c93, n94, n95, c96, c97, c98, n99, c100, c101, c102, c103, c104, c105, c106, c107, c108, c109, c110, c111, c112, c113, c114, c115, c116, c117, c118, c119, c120, c121, c122, c123, c124, c125, c126, c127, c128, c129, c130, c131, c132, c133, c134, c135, tc0, tc1, tc2, tc3, tc4, tc5, tc6, tc7, tc8, tc9, tc10, tc11, tc12, tc13, tc14, tc15, tc16, tc17, tc18, tc19, tc20, tc21, tc22, tc23, tc24, tc25, tc26, tc27, tc28, tc29, tc30, tc31, tc32, tc33, tc34, tc35, tc36, tc37, tc38, tc39, tc40, tc41, tc42, tc43, tc44, tt0, tt1, tt2, tt3, tt4, td0, td1, List.drop_succ_cons, List.drop_zero, outQ_ite, px, pf, pm, fr_, ff_, fp_, fc_, fv_, nI_get, nI_len, bI_get, bI_len, Int.toNat_natCast
, n96, n97])
theorem n104 {F : FQ} {Q : PQ} {μ : M} {w : Int} : callQ (tb.fn 104) F [.int w] μ Q ↔ (0 ≤ w ∧ w < 4294967296) ∧ if rs2Of w.toNat ≤ 3 then Q (.int (4 + (rs2Of w.toNat : Nat))) μ else F 2 w μ := by
  rw [c104, outQ_ite]
  exact Iff.rfl
theorem g104 : Good tb (tb.fn 104) 1 1 k104 := by
  refine gd104 rfl fun μ w h => ?_
  unfold k104
  array_get_dec
  refine ⟨h, ?_⟩
  by_cases c : rs2Of w.toNat ≤ 3
  · rw [if_pos (by omega), if_pos c]
    exact ⟨h, rfl⟩
  · rw [if_neg (by omega), if_neg c]
theorem sext_low {n : Nat} (h1 : 1 ≤ n) (h2 : n ≤ 64) (v : Nat) : lowBits n true v % 18446744073709551616 = ((sext n v : Nat) : Int) := by
  unfold lowBits sext
  have p : 2 ^ n = 2 ^ (n - 1) + 2 ^ (n - 1) := by
    obtain ⟨k, rfl⟩ : ∃ k, n = k + 1 := ⟨n - 1, by omega⟩
    rw [Nat.add_sub_cancel, Nat.pow_succ]
    omega
  have q : 2 ^ n ≤ 2 ^ 64 := Nat.pow_le_pow_right (by decide) h2
  have r := Nat.mod_lt v (Nat.two_pow_pos n)
  generalize v % 2 ^ n = x at *
  generalize 2 ^ n = N at *
  generalize 2 ^ (n - 1) = K at *
  by_cases c : x < K
  · rw [if_neg (fun z => by have := z.2; omega), if_pos c]
    omega
  · rw [if_pos ⟨rfl, by omega⟩, if_neg c]
    omega
theorem setX_mod (s : Mach) (r v : Nat) : s.setX r ((v : Int) % 18446744073709551616).toNat = s.setX r v := by
  unfold Mach.setX mod64
  rw [show ((v : Int) % 18446744073709551616).toNat = v % 2 ^ 64 by omega, Nat.mod_mod]
theorem setX_sext {n : Nat} (h1 : 1 ≤ n) (h2 : n ≤ 64) (s : Mach) (r v : Nat) : s.setX r (lowBits n true v % 18446744073709551616).toNat = s.setX r (sext n v) := by
  rw [sext_low h1 h2, Int.toNat_natCast]
theorem ctW2 {w : Nat} (h : fmOf w ≠ 3) : [(32 : Int), 64, 16].getD (fmOf w) 0 = (((fmtOf (fmOf w)).width : Nat) : Int) := by
  have := fm_lt w
  have : fmOf w = 0 ∨ fmOf w = 1 ∨ fmOf w = 2 := by omega
  rcases this with e | e | e <;> rw [e] <;> rfl
theorem wd_le {w : Nat} (h : fmOf w ≠ 3) : 1 ≤ (fmtOf (fmOf w)).width ∧ (fmtOf (fmOf w)).width ≤ 64 := by
  have := fm_lt w
  have : fmOf w = 0 ∨ fmOf w = 1 ∨ fmOf w = 2 := by omega
  rcases this with e | e | e <;> rw [e] <;> decide
theorem g105 : Good tb (tb.fn 105) 2 6 k105 := by
  refine gd105 rfl fun s g w I h => ?_
  obtain ⟨hw1, hw2, h5⟩ := h
  have np : f5Of w.toNat ≠ 4 ∧ f5Of w.toNat ≠ 5 ∧ f5Of w.toNat ≠ 20 ∧ f5Of w.toNat ≠ 28 ∧ f5Of w.toNat ≠ 30 := by omega
  have ill := off_ill s g hw1
  unfold k105
  array_get_dec
  refine ⟨⟨hw1, hw2⟩, ?_⟩
  by_cases c : fmOf w.toNat = 3
  · rw [if_pos c, xo_3 c, ill]
  rw [if_neg c]
  have hf := okFm c
  have r1 := r1_lt w.toNat
  refine ⟨⟨hw1, hw2⟩, ?_⟩
  by_cases b : rs2Of w.toNat ≤ 3
  · rw [if_pos b]
    refine ⟨⟨I, hw1, hw2⟩, fun hm => by rw [xo_mn np hm, ill], fun rm hm => ⟨⟨hw1, hw2⟩, ⟨I, hf, by omega, by omega⟩, ⟨hf, ⟨by omega, by omega⟩, ⟨by omega, by have := mode_le hm; omega⟩, Int.natCast_nonneg _⟩, ?_⟩⟩
    rw [show (4 + ((rs2Of w.toNat : Nat) : Int)).toNat = 4 + rs2Of w.toNat by omega]
    have fl := fl_toWhole (fmOf w.toNat) (4 + rs2Of w.toNat) rm (s.fr (fmOf w.toNat) (rs1Of w.toNat))
    obtain ⟨p, q, hp⟩ : ∃ p q, toWhole (fmOf w.toNat) (4 + rs2Of w.toNat) rm (s.fr (fmOf w.toNat) (rs1Of w.toNat)) = (p, q) := ⟨_, _, rfl⟩
    rw [hp] at fl ⊢
    replace fl : q < 32 := fl
    unfold t2
    array_get_dec
    by_cases d : rs2Of w.toNat ≤ 1
    · rw [if_pos (by omega), xo_rs np c hm (by rw [er24 h5, if_pos d]), off_intoX, hp]
      refine ⟨⟨Int.natCast_nonneg _, by decide, by decide⟩, ⟨I, hw1, hw2, Int.natCast_nonneg _, by show (q : Int) < 32; omega⟩, ?_⟩
      show (Out.ok PV.non, enc ((s.raise q).setX (rdOf w.toNat) (sext 32 p)) g) = (Out.ok PV.non, enc ((s.raise ((q : Int)).toNat).setX (rdOf w.toNat) (lowBits 32 true p % 18446744073709551616).toNat) g)
      rw [setX_sext (by decide) (by decide), Int.toNat_natCast]
    · rw [if_neg (by omega), xo_rs np c hm (by rw [er24 h5, if_neg d, if_pos b]), off_intoX, hp]
      refine ⟨⟨I, hw1, hw2, Int.natCast_nonneg _, by show (q : Int) < 32; omega⟩, ?_⟩
      show (Out.ok PV.non, enc ((s.raise q).setX (rdOf w.toNat) p) g) = (Out.ok PV.non, enc ((s.raise ((q : Int)).toNat).setX (rdOf w.toNat) ((p : Int) % 18446744073709551616).toNat) g)
      rw [setX_mod, Int.toNat_natCast]
  · rw [if_neg b, xo_rn np (fun rm => by rw [er24 h5, if_neg (by omega), if_neg b]), ill]
theorem g106 : Good tb (tb.fn 106) 2 4 k106 := by
  refine gd106 rfl fun s g w I h => ?_
  obtain ⟨hw1, hw2, h5⟩ := h
  have np : f5Of w.toNat ≠ 4 ∧ f5Of w.toNat ≠ 5 ∧ f5Of w.toNat ≠ 20 ∧ f5Of w.toNat ≠ 28 ∧ f5Of w.toNat ≠ 30 := by omega
  have ill := off_ill s g hw1
  unfold k106
  array_get_dec
  refine ⟨⟨hw1, hw2⟩, ?_⟩
  by_cases c : fmOf w.toNat = 3
  · rw [if_pos c, xo_3 c, ill]
  rw [if_neg c]
  have hf := okFm c
  have r1 := r1_lt w.toNat
  refine ⟨⟨I, hw1, hw2⟩, fun hm => by rw [xo_mn np hm, ill], fun rm hm => ⟨⟨hw1, hw2⟩, ?_⟩⟩
  by_cases b : rs2Of w.toNat ≤ 3
  · rw [if_pos b, xo_rs np c hm (by rw [er26 h5, if_pos b]), off_intoF, I.xr]
    rw [show (4 + ((rs2Of w.toNat : Nat) : Int)).toNat = 4 + rs2Of w.toNat by omega]
    have xl := I.xl
    exact ⟨⟨hw1, hw2⟩, ⟨by omega, by omega⟩, ⟨hf, ⟨by omega, by omega⟩, ⟨by omega, by have := mode_le hm; omega⟩, Int.natCast_nonneg _⟩, ⟨I, hw1, hw2, c, ok_ofInt (isF3 hf) _ _⟩, rfl⟩
  · rw [if_neg b, xo_rn np (fun rm => by rw [er26 h5, if_neg b]), ill]
theorem g107 : Good tb (tb.fn 107) 2 4 k107 := by
  refine gd107 rfl fun s g w I h => ?_
  obtain ⟨hw1, hw2, h5⟩ := h
  have ill := off_ill s g hw1
  unfold k107
  array_get_dec
  refine ⟨⟨hw1, hw2⟩, ?_⟩
  by_cases c : fmOf w.toNat = 3
  · rw [if_pos c, xo_3 c, ill]
  rw [if_neg c]
  have hf := okFm c
  have r1 := r1_lt w.toNat
  have fl := I.fl
  obtain ⟨w1, w2⟩ := wd_le c
  refine ⟨⟨hw1, hw2⟩, ?_⟩
  by_cases b : rs2Of w.toNat = 0
  · rw [if_pos (by omega)]
    refine ⟨⟨hw1, hw2⟩, ?_⟩
    by_cases d : f3Of w.toNat ≤ 1
    · rw [if_pos (by omega)]
      refine ⟨⟨hw1, hw2⟩, ?_⟩
      by_cases e : f3Of w.toNat = 0
      · rw [if_pos (by omega), ctW2 c]
        simp only [Int.toNat_natCast]
        rw [xo_plain c (o := intoX s (rdOf w.toNat) (sext (fmtOf (fmOf w.toNat)).width (s.f.getD (rs1Of w.toNat) 0), 0)) (by unfold execPlain; simp [h5, b, e]; rfl), off_intoX]
        refine ⟨⟨hw1, hw2⟩, ⟨by omega, by omega⟩, ⟨by omega, by have := fm_lt w.toNat; omega⟩, ⟨Int.natCast_nonneg _, by omega, by omega⟩, ⟨I, hw1, hw2, show (0 : Int) ≤ 0 by decide, show (0 : Int) < 32 by decide⟩, ?_⟩
        show _ = (Out.ok PV.non, enc ((s.raise 0).setX (rdOf w.toNat) (lowBits (fmtOf (fmOf w.toNat)).width true (s.f.getD (rs1Of w.toNat) 0) % 18446744073709551616).toNat) g)
        rw [setX_sext w1 w2]
      · rw [if_neg (by omega), xo_plain c (o := intoX s (rdOf w.toNat) (classOf (fmOf w.toNat) (s.fr (fmOf w.toNat) (rs1Of w.toNat)), 0)) (by unfold execPlain; simp [h5, b, show f3Of w.toNat = 1 by omega]), off_intoX]
        refine ⟨⟨hw1, hw2⟩, ⟨I, hf, by omega, by omega⟩, ⟨hf, Int.natCast_nonneg _⟩, ⟨I, hw1, hw2, show (0 : Int) ≤ 0 by decide, show (0 : Int) < 32 by decide⟩, ?_⟩
        show _ = (Out.ok PV.non, enc ((s.raise 0).setX (rdOf w.toNat) (((classOf (fmOf w.toNat) (s.fr (fmOf w.toNat) (rs1Of w.toNat)) : Nat) : Int) % 18446744073709551616).toNat) g)
        rw [setX_mod]
    · rw [if_neg (by omega), xo_pn c (by unfold execPlain; simp [h5, b, show f3Of w.toNat ≠ 0 by omega, show f3Of w.toNat ≠ 1 by omega]) (fun rm => er_none (by omega)), ill]
  · rw [if_neg (by omega), xo_pn c (by unfold execPlain; simp [h5, b]) (fun rm => er_none (by omega)), ill]
theorem g108 : Good tb (tb.fn 108) 2 3 k108 := by
  refine gd108 rfl fun s g w I h => ?_
  obtain ⟨hw1, hw2, h5⟩ := h
  have ill := off_ill s g hw1
  unfold k108
  array_get_dec
  refine ⟨⟨hw1, hw2⟩, ?_⟩
  by_cases c : fmOf w.toNat = 3
  · rw [if_pos c, xo_3 c, ill]
  rw [if_neg c]
  have hf := okFm c
  have r1 := r1_lt w.toNat
  have xl := I.xl
  refine ⟨⟨hw1, hw2⟩, ?_⟩
  by_cases b : rs2Of w.toNat = 0
  · rw [if_pos (by omega)]
    refine ⟨⟨hw1, hw2⟩, ?_⟩
    by_cases d : f3Of w.toNat = 0
    · rw [if_pos (by omega), xo_plain c (o := intoF s (fmOf w.toNat) (rdOf w.toNat) (s.x.getD (rs1Of w.toNat) 0, 0)) (by unfold execPlain; simp [h5, b, d, I.xr]), off_intoF]
      have ml : s.x.getD (rs1Of w.toNat) 0 % 2 ^ (fmtOf (fmOf w.toNat)).width < 2 ^ (fmtOf (fmOf w.toNat)).width := Nat.mod_lt _ (Nat.two_pow_pos _)
      refine ⟨⟨hw1, hw2⟩, ⟨by omega, by omega⟩, ⟨hf, Int.natCast_nonneg _⟩, ⟨I, hw1, hw2, c, ⟨Int.natCast_nonneg _, ?_⟩, show (0 : Int) ≤ 0 by decide, show (0 : Int) < 32 by decide⟩, ?_⟩
      · rw [pow_nat]
        show ((s.x.getD (rs1Of w.toNat) 0 % 2 ^ (fmtOf (fmOf w.toNat)).width : Nat) : Int) < _
        omega
      · show _ = (Out.ok PV.non, enc ((s.raise 0).setF (fmOf w.toNat) (rdOf w.toNat) (s.x.getD (rs1Of w.toNat) 0 % 2 ^ (fmtOf (fmOf w.toNat)).width)) g)
        unfold Mach.setF box bitsOfFmt
        rw [Nat.mod_mod]
    · rw [if_neg (by omega), xo_pn c (by unfold execPlain; simp [h5, b, d]) (fun rm => er_none (by omega)), ill]
  · rw [if_neg (by omega), xo_pn c (by unfold execPlain; simp [h5, b]) (fun rm => er_none (by omega)), ill]

end FH
end
section
set_option linter.all false
set_option Elab.async false
set_option maxRecDepth 10000
namespace FH
open RvNum RvMach
local macro_rules | `(tactic| array_get_dec) => `(tactic| simp -implicitDefEqProofs only [senv, List.map_cons, List.map_nil, List.length_cons, List.length_nil, Nat.reduceAdd, Nat.reduceSub, List.replicate_zero, List.replicate_succ, List.cons_append, List.nil_append, List.append_nil, List.set_cons_zero, List.set_cons_succ,
  exs, ex, ↓ev_max2, ↓ev_min2, ↓ev_abs, ev, evs, evAnd, evOr, op2, cp2, onInt, onBl, onSeq, onLst, onTup, onMach, onInts, onSome, intsOf, Option.map_some, Option.map_none, getS_0, getS_n, getS_s, setAll, atQ, fromQ, decide_eq_true_eq, Bool.not_eq_true', decide_eq_false_iff_not, Bool.true_eq_false, Bool.false_eq_true, if_true, if_false, ite_true, ite_false, outQ_ok, outQ_flt, and_true, true_and, PV.int.injEq, PV.bl.injEq, PV.tup.injEq, PV.lst.injEq, c0, c1, c2, c3, c4, c5, c6, c7, c8, c9, c10, c11, c12, c13, c14, c15, c16, c17, c18, c19, c20, c21, c22, c23, c24, c25, c26, c27, c28, c29, c30, n31, c32, c33, c34, c35, c36, c37, c38, c39, c40, c41, c42, c43, c44, n45, c46, c47, c48, c49, c50, c51, c52, c53, c54, c55, c56, c57, c58, c59, c60, c61, c62, c63, c64, c65, c67, c68, c69, c70, c71, c72, n73, c74, c75, c76, c77, c78, c79, c80, c81, c82, c83, c84, c85, c86, c87, c88, c89, c90, c91, c92, c93, n94, n95, c96, c97, c98, n99, c100, c101, c102, c103, n104, c105, c106, c107, c108, c109, c110, c111, c112, c113, c114, c115, c116, c117, c118, c119, c120, c121, c122, c123, c124, c125, c126, c127, c128, c129, c130, c131, c132, c133, c134, c135, tc0, tc1, tc2, tc3, tc4, tc5, tc6, tc7, tc8, tc9, tc10, tc11, tc12, tc13, tc14, tc15, tc16, tc17, tc18, tc19, tc20, tc21, tc22, tc23, tc24, tc25, tc26, tc27, tc28, tc29, tc30, tc31, tc32, tc33, tc34, tc35, tc36, tc37, tc38, tc39, tc40, tc41, tc42, tc43, tc44, tt0, tt1, tt2, tt3, tt4, td0, td1, List.drop_succ_cons, List.drop_zero, outQ_ite, px, pf, pm, fr_, ff_, fp_, fc_, fv_, nI_get, nI_len, bI_get, bI_len, Int.toNat_natCast
, n96, n97])
theorem off_self (s : Mach) (g : Nat) (O : Outcome) : outQ (off s g O) (fun i j m' => off s g O = (.flt i j, m')) (fun _ m' => off s g O = (.ok .non, m')) := by
  cases O <;> exact rfl
theorem on_self (s : Mach) (g : Nat) (O : Outcome) : outQ (on_ s g O) (fun i j m' => on_ s g O = (.flt i j, m')) (fun _ m' => on_ s g O = (.ok .non, m')) := by
  cases O <;> exact rfl
theorem g110 : Good tb (tb.fn 110) 2 3 k110 := by
  refine gd110 rfl fun s g w I h => ?_
  unfold k110
  array_get_dec
  have S := off_self s g (execOp s w.toNat)
  obtain ⟨h1, h2⟩ := h
  refine ⟨⟨h1, h2⟩, ?_⟩
  by_cases c1 : f5Of w.toNat = 20
  · rw [if_pos (by omega)]
    exact ⟨⟨I, h1, h2, c1⟩, S⟩
  rw [if_neg (by omega)]
  by_cases c2 : f5Of w.toNat = 24
  · rw [if_pos (by omega)]
    exact ⟨⟨I, h1, h2, c2⟩, S⟩
  rw [if_neg (by omega)]
  by_cases c3 : f5Of w.toNat = 28
  · rw [if_pos (by omega)]
    exact ⟨⟨I, h1, h2, c3⟩, S⟩
  rw [if_neg (by omega)]
  exact ⟨⟨I, h1, h2, c1, c2, c3⟩, S⟩
theorem g109 : Good tb (tb.fn 109) 2 3 k109 := by
  refine gd109 rfl fun s g w I h => ?_
  unfold k109
  array_get_dec
  have S := off_self s g (execOp s w.toNat)
  obtain ⟨h1, h2, n1, n2, n3⟩ := h
  have ill := off_ill s g h1
  have f5 := f5_lt w.toNat
  refine ⟨⟨h1, h2⟩, ?_⟩
  by_cases c1 : f5Of w.toNat ≤ 3
  · rw [if_pos (by omega)]
    have np : f5Of w.toNat ≠ 4 ∧ f5Of w.toNat ≠ 5 ∧ f5Of w.toNat ≠ 20 ∧ f5Of w.toNat ≠ 28 ∧ f5Of w.toNat ≠ 30 := by omega
    refine ⟨⟨I, h1, h2⟩, fun hm => by rw [xo_mn np hm, ill], fun rm hm => ⟨⟨I, h1, h2, ⟨by omega, by omega⟩, Int.natCast_nonneg _, by have := mode_le hm; omega⟩, ?_⟩⟩
    by_cases c : fmOf w.toNat = 3
    · rw [if_pos c, xo_3 c, ill]
    · rw [if_neg c, xo_rs np c hm (er3 c1), off_intoF]
  rw [if_neg (by omega)]
  by_cases c2 : f5Of w.toNat = 4
  · rw [if_pos (by omega)]
    exact ⟨⟨I, h1, h2, .inl c2⟩, S⟩
  rw [if_neg (by omega)]
  by_cases c3 : f5Of w.toNat = 5
  · rw [if_pos (by omega)]
    exact ⟨⟨I, h1, h2, .inr c3⟩, S⟩
  rw [if_neg (by omega)]
  by_cases c4 : f5Of w.toNat = 8
  · rw [if_pos (by omega)]
    exact ⟨⟨I, h1, h2, c4⟩, S⟩
  rw [if_neg (by omega)]
  by_cases c5 : f5Of w.toNat = 11
  · rw [if_pos (by omega)]
    exact ⟨⟨I, h1, h2, c5⟩, S⟩
  rw [if_neg (by omega)]
  by_cases c6 : f5Of w.toNat = 26
  · rw [if_pos (by omega)]
    exact ⟨⟨I, h1, h2, c6⟩, S⟩
  rw [if_neg (by omega)]
  by_cases c7 : f5Of w.toNat = 30
  · rw [if_pos (by omega)]
    exact ⟨⟨I, h1, h2, c7⟩, S⟩
  rw [if_neg (by omega), xo_rn ⟨c2, c3, n1, n3, c7⟩ (fun rm => er_none ⟨c1, c5, c4, n2, c6⟩), ill]
theorem n111 {F : FQ} {Q : PQ} {μ : M} {w : Int} : callQ (tb.fn 111) F [.int w] μ Q ↔ (0 ≤ w ∧ w < 4294967296) ∧ (bytesOfF3 (f3Of w.toNat) = none → F 2 w μ) ∧ ∀ a b : Nat, bytesOfF3 (f3Of w.toNat) = some (a, b) → Q (.tup [(a : Int), (b : Int)]) μ := by
  rw [c111]
  refine and_congr Iff.rfl ?_
  cases h : bytesOfF3 (f3Of w.toNat) with
  | none => exact ⟨fun h => ⟨fun _ => h, fun _ _ e => by cases e⟩, fun h => h.1 rfl⟩
  | some p => exact ⟨fun h => ⟨fun e => (by cases e), fun _ _ e => by cases e; exact h⟩, fun h => h.2 p.1 p.2 rfl⟩
theorem g111 : Good tb (tb.fn 111) 1 1 k111 := by
  refine gd111 rfl fun μ w h => ?_
  unfold k111
  array_get_dec
  have f3 := f3_lt w.toNat
  refine ⟨h, ?_⟩
  generalize f3Of w.toNat = z at *
  have hz8 : z = 0 ∨ z = 1 ∨ z = 2 ∨ z = 3 ∨ z = 4 ∨ z = 5 ∨ z = 6 ∨ z = 7 := by omega
  rcases hz8 with rfl | rfl | rfl | rfl | rfl | rfl | rfl | rfl
  · rfl
  · exact ⟨h, rfl⟩
  · exact ⟨h, rfl⟩
  · exact ⟨h, rfl⟩
  · rfl
  · rfl
  · rfl
  · rfl
theorem g112 : Good tb (tb.fn 112) 5 6 k112 := by
  refine gd112 rfl fun s g w o n c I h => ?_
  unfold k112
  array_get_dec
  obtain ⟨h1, h2, h3⟩ := h
  have r1 := r1_lt w.toNat
  have xl := I.xl
  rw [I.xr]
  refine ⟨⟨h1, h2⟩, ⟨by omega, by omega⟩, ?_⟩
  generalize (((s.x.getD (rs1Of w.toNat) 0 : Nat) : Int) + o) % 18446744073709551616 = A
  by_cases d : A + n ≤ 4096
  · rw [if_neg (by omega), if_pos d]
  · rw [if_pos (by omega), if_neg d]
theorem addr {n : Nat} (h1 : 1 ≤ n) (h2 : n ≤ 64) (x v : Nat) : ((x : Int) + lowBits n true v) % 18446744073709551616 = ((mod64 (x + sext n v) : Nat) : Int) := by
  have := sext_low h1 h2 v
  unfold mod64
  omega
theorem valueOf_lt : ∀ l : List UInt8, valueOf l < 256 ^ l.length
  | [] => by decide
  | c :: r => by
    have := valueOf_lt r
    have := UInt8.toNat_lt c
    show c.toNat + 256 * valueOf r < 256 ^ (r.length + 1)
    rw [Nat.pow_succ]
    omega
theorem b3_some {z a b : Nat} (h : bytesOfF3 z = some (a, b)) : a ≤ 2 ∧ b ≤ 8 ∧ 256 ^ b = 2 ^ (fmtOf a).width := by
  unfold bytesOfF3 at h
  split at h
  · cases h
    decide
  · split at h
    · cases h
      decide
    · split at h
      · cases h
        decide
      · cases h

end FH
end
section
set_option linter.all false
set_option Elab.async false
set_option maxRecDepth 10000
namespace FH
open RvNum RvMach
local macro_rules | `(tactic| array_get_dec) => `(tactic| simp -implicitDefEqProofs only [senv, List.map_cons, List.map_nil, List.length_cons, List.length_nil, Nat.reduceAdd, Nat.reduceSub, List.replicate_zero, List.replicate_succ, List.cons_append, List.nil_append, List.append_nil, List.set_cons_zero, List.set_cons_succ,
  exs, ex, ↓ev_max2, ↓ev_min2, ↓ev_abs, ev, evs, evAnd, evOr, op2, cp2, onInt, onBl, onSeq, onLst, onTup, onMach, onInts, onSome, intsOf, Option.map_some, Option.map_none, getS_0, getS_n, getS_s, setAll, atQ, fromQ, decide_eq_true_eq, Bool.not_eq_true', decide_eq_false_iff_not, Bool.true_eq_false, Bool.false_eq_true, if_true, if_false, ite_true, ite_false, outQ_ok, outQ_flt, and_true, true_and, PV.int.injEq, PV.bl.injEq, PV.tup.injEq, PV.lst.injEq, c0, c1, c2, c3, c4, c5, c6, c7, c8, c9, c10, c11, c12, c13, c14, c15, c16, c17, c18, c19, c20, c21, c22, c23, c24, c25, c26, c27, c28, c29, c30, n31, c32, c33, c34, c35, c36, c37, c38, c39, c40, c41, c42, c43, c44, n45, c46, c47, c48, c49, c50, c51, c52, c53, c54, c55, c56, c57, c58, c59, c60, c61, c62, c63, c64, c65, c67, c68, c69, c70, c71, c72, n73, c74, c75, c76, c77, c78, c79, c80, c81, c82, c83, c84, c85, c86, c87, c88, c89, c90, c91, c92, c93, n94, n95, c96, c97, c98, n99, c100, c101, c102, c103, n104, c105, c106, c107, c108, c109, c110, n111, c112, c113, c114, c115, c116, c117, c118, c119, c120, c121, c122, c123, c124, c125, c126, c127, c128, c129, c130, c131, c132, c133, c134, c135, tc0, tc1, tc2, tc3, tc4, tc5, tc6, tc7, tc8, tc9, tc10, tc11, tc12, tc13, tc14, tc15, tc16, tc17, tc18, tc19, tc20, tc21, tc22, tc23, tc24, tc25, tc26, tc27, tc28, tc29, tc30, tc31, tc32, tc33, tc34, tc35, tc36, tc37, tc38, tc39, tc40, tc41, tc42, tc43, tc44, tt0, tt1, tt2, tt3, tt4, td0, td1, List.drop_succ_cons, List.drop_zero, outQ_ite, px, pf, pm, fr_, ff_, fp_, fc_, fv_, nI_get, nI_len, bI_get, bI_len, Int.toNat_natCast
, n96, n97])
theorem ld_none {s : Mach} {w : Nat} (h : bytesOfF3 (f3Of w) = none) : execLoad s w = illegal w := by
  unfold execLoad
  dsimp only
  rw [h]
theorem ld_some {s : Mach} {w a b : Nat} (h : bytesOfF3 (f3Of w) = some (a, b)) : execLoad s w = if mod64 (s.xr (rs1Of w) + immI w) + b ≤ 4096 then nextOf (s.setF a (rdOf w) (valueOf ((s.mem.drop (mod64 (s.xr (rs1Of w) + immI w))).take b))) else .fault 5 (mod64 (s.xr (rs1Of w) + immI w)) := by
  unfold execLoad
  dsimp only
  rw [h]
  dsimp only
  unfold Mach.load MEMORY
  split
  · rename_i v q
    split at q
    · rename_i c
      cases q
      rw [if_pos c]
    · cases q
  · rename_i q
    split at q
    · cases q
    · rename_i c
      rw [if_neg c]
theorem st_none {s : Mach} {w : Nat} (h : bytesOfF3 (f3Of w) = none) : execStore s w = illegal w := by
  unfold execStore
  dsimp only
  rw [h]
theorem st_some {s : Mach} {w a b : Nat} (h : bytesOfF3 (f3Of w) = some (a, b)) : execStore s w = if mod64 (s.xr (rs1Of w) + immS w) + b ≤ 4096 then nextOf { s with mem := s.mem.take (mod64 (s.xr (rs1Of w) + immS w)) ++ (bytesOf b (s.f.getD (rs2Of w) 0) ++ s.mem.drop (mod64 (s.xr (rs1Of w) + immS w) + b)) } else .fault 7 (mod64 (s.xr (rs1Of w) + immS w)) := by
  unfold execStore
  dsimp only
  rw [h]
  dsimp only
  unfold Mach.store MEMORY Mach.raw
  split
  · rename_i v q
    split at q
    · rename_i c
      cases q
      rw [if_pos c]
    · cases q
  · rename_i q
    split at q
    · cases q
    · rename_i c
      rw [if_neg c]
theorem g113 : Good tb (tb.fn 113) 2 5 k113 := by
  refine gd113 rfl fun s g w I h => ?_
  unfold k113
  array_get_dec
  have ill := off_ill s g h.1
  refine ⟨h, fun hn => by rw [ld_none hn, ill], fun a b hs => ⟨h, ⟨I, h.1, h.2, ?_⟩, ?_⟩⟩
  · obtain ⟨_, b2, _⟩ := b3_some hs
    omega
  · obtain ⟨b1, b2, b3⟩ := b3_some hs
    rw [addr (by decide) (by decide), ld_some hs]
    have ei : sext 12 (bitsOf w.toNat 20 12) = immI w.toNat := rfl
    rw [ei]
    generalize mod64 (s.xr (rs1Of w.toNat) + immI w.toNat) = A
    have rd := rd_lt w.toNat
    have ml := I.ml
    by_cases c : A + b ≤ 4096
    · rw [if_pos (by omega), if_pos c, Int.toNat_natCast]
      refine ⟨h, ⟨I, by omega, by omega, by omega, by omega⟩, ⟨I, ⟨by omega, by omega⟩, ⟨by omega, by omega⟩, Int.natCast_nonneg _, ?_⟩, off_next g rfl⟩
      have v := valueOf_lt ((s.mem.drop A).take b)
      rw [List.length_take, List.length_drop, show min b (s.mem.length - A) = b by omega, b3] at v
      rw [pow_nat]
      show _ < ((2 ^ (fmtOf a).width : Nat) : Int)
      omega
    · rw [if_neg (by omega), if_neg c]
      rfl
theorem g114 : Good tb (tb.fn 114) 2 4 k114 := by
  refine gd114 rfl fun s g w I h => ?_
  unfold k114
  array_get_dec
  have ill := off_ill s g h.1
  refine ⟨h, fun hn => by rw [st_none hn, ill], fun a b hs => ?_⟩
  obtain ⟨b1, b2, b3⟩ := b3_some hs
  have e1 : [(a : Int), (b : Int)].getD (1 : Int).toNat 0 = (b : Int) := rfl
  rw [e1, addr (by decide) (by decide), st_some hs]
  have ei : sext 12 (bitsOf w.toNat 25 7 * 2 ^ 5 + bitsOf w.toNat 7 5) = immS w.toNat := rfl
  rw [ei]
  generalize mod64 (s.xr (rs1Of w.toNat) + immS w.toNat) = A
  have r2 := r2_lt w.toNat
  have fl := I.fl
  refine ⟨⟨by decide, by decide⟩, h, ⟨I, h.1, h.2, by omega, by omega⟩, ?_⟩
  by_cases c : A + b ≤ 4096
  · rw [if_pos (by omega), if_pos c, Int.toNat_natCast, Int.toNat_natCast]
    exact ⟨h, ⟨by omega, by omega⟩, ⟨I, by omega, by omega, by omega, by omega, Int.natCast_nonneg _⟩, off_next g rfl⟩
  · rw [if_neg (by omega), if_neg c]
    rfl
theorem ex55 {s : Mach} {w : Nat} (h : opcodeOf w = 55) : exec s w = nextOf (s.setX (rdOf w) (immU w)) := by
  unfold exec
  simp only [h]
  rfl
theorem ex19 {s : Mach} {w : Nat} (h : opcodeOf w = 19) : exec s w = if f3Of w = 0 then nextOf (s.setX (rdOf w) (s.xr (rs1Of w) + immI w)) else illegal w := by
  unfold exec
  simp [h]
theorem ex51 {s : Mach} {w : Nat} (h : opcodeOf w = 51) : exec s w = if f3Of w = 0 ∧ f7Of w = 0 then nextOf (s.setX (rdOf w) (s.xr (rs1Of w) + s.xr (rs2Of w))) else if f3Of w = 0 ∧ f7Of w = 32 then nextOf (s.setX (rdOf w) (s.xr (rs1Of w) + (2 ^ 64 - s.xr (rs2Of w)))) else illegal w := by
  unfold exec
  simp [h]
theorem setX_cong (s : Mach) (r : Nat) {u v : Nat} (h : u % 2 ^ 64 = v % 2 ^ 64) : s.setX r u = s.setX r v := by
  unfold Mach.setX mod64
  rw [h]
theorem upper {w : Nat} (hw : w < 4294967296) : iAnd (w : Int) 4294963200 = ((bitsOf w 12 20 * 4096 : Nat) : Int) := by
  have e0 : (4294963200 : Int) = ((4294963200 : Nat) : Int) := rfl
  rw [e0, iAnd_nn]
  have e1 : 4294963200 = (2 ^ 32 - 1) &&& ((2 ^ 64 - 1) ^^^ 4095) := by decide
  have e2 : w &&& 4294963200 = w - w % 4096 := by
    rw [e1, ← Nat.and_assoc, land_mod, Nat.mod_eq_of_lt (show w < 2 ^ 32 from hw), and_not w 4095 (by omega) (by decide)]
    have : w &&& 4095 = w % 4096 := land_mod w 12
    rw [this]
  rw [e2]
  unfold bitsOf
  have : w / 2 ^ 12 % 2 ^ 20 = w / 4096 := Nat.mod_eq_of_lt (by show w / 4096 < 1048576; omega)
  rw [this]
  omega
theorem g115 : Good tb (tb.fn 115) 2 2 k115 := by
  refine gd115 rfl fun s g w I h => ?_
  unfold k115
  array_get_dec
  obtain ⟨h1, h2, h3⟩ := h
  obtain ⟨w, rfl⟩ := Int.eq_ofNat_of_zero_le h1
  rw [Int.toNat_natCast] at h3 ⊢
  have rd := rd_lt w
  rw [upper (by omega), ex55 h3, Int.toNat_natCast]
  refine ⟨⟨h1, h2⟩, ⟨Int.natCast_nonneg _, by decide, by decide⟩, ⟨I, by omega, by omega⟩, ?_⟩
  show _ = (Out.ok PV.non, enc (s.setX (rdOf w) (lowBits 32 true (bitsOf w 12 20 * 4096) % 18446744073709551616).toNat) g)
  rw [setX_sext (by decide) (by decide)]
  exact off_next g (pc_setX _ _ _)
theorem g116 : Good tb (tb.fn 116) 2 2 k116 := by
  refine gd116 rfl fun s g w I h => ?_
  unfold k116
  array_get_dec
  obtain ⟨h1, h2, h3⟩ := h
  have ill := off_ill s g h1
  have rd := rd_lt w.toNat
  have r1 := r1_lt w.toNat
  have xl := I.xl
  refine ⟨⟨h1, h2⟩, ?_⟩
  rw [ex19 h3]
  by_cases c : f3Of w.toNat = 0
  · rw [if_pos (by omega), if_pos c, addr (by decide) (by decide), Int.toNat_natCast, I.xr]
    refine ⟨⟨h1, h2⟩, ⟨h1, h2⟩, ⟨by omega, by omega⟩, ⟨h1, h2⟩, ⟨I, by omega, by omega⟩, ?_⟩
    rw [setX_cong s _ (show mod64 (s.x.getD (rs1Of w.toNat) 0 + sext 12 (bitsOf w.toNat 20 12)) % 2 ^ 64 = (s.x.getD (rs1Of w.toNat) 0 + immI w.toNat) % 2 ^ 64 from Nat.mod_mod _ _)]
    exact off_next g (pc_setX _ _ _)
  · rw [if_neg (by omega), if_neg c, ill]
theorem g117 : Good tb (tb.fn 117) 2 4 k117 := by
  refine gd117 rfl fun s g w I h => ?_
  unfold k117
  array_get_dec
  obtain ⟨h1, h2, h3⟩ := h
  have ill := off_ill s g h1
  have rd := rd_lt w.toNat
  have r1 := r1_lt w.toNat
  have r2 := r2_lt w.toNat
  have xl := I.xl
  refine ⟨⟨h1, h2⟩, ?_⟩
  rw [ex51 h3]
  by_cases c : f3Of w.toNat = 0
  · rw [if_pos (by omega)]
    refine ⟨⟨h1, h2⟩, ?_⟩
    rw [I.xr, I.xr]
    have b1 := I.xlt (rs1Of w.toNat)
    have b2 := I.xlt (rs2Of w.toNat)
    by_cases d : f7Of w.toNat = 0
    · rw [if_pos (by rw [d]; decide), if_pos (by omega), if_pos ⟨c, d⟩]
      refine ⟨⟨h1, h2⟩, ⟨by omega, by omega⟩, ⟨h1, h2⟩, ⟨by omega, by omega⟩, ⟨h1, h2⟩, ⟨h1, h2⟩, ⟨I, by omega, by omega⟩, ?_⟩
      rw [← Int.natCast_add, setX_mod]
      exact off_next g (pc_setX _ _ _)
    · by_cases e : f7Of w.toNat = 32
      · rw [if_pos (by rw [e]; decide), if_neg (by omega), if_neg (fun z => d z.2), if_pos ⟨c, e⟩]
        refine ⟨⟨h1, h2⟩, ⟨by omega, by omega⟩, ⟨h1, h2⟩, ⟨by omega, by omega⟩, ⟨h1, h2⟩, ⟨h1, h2⟩, ⟨I, by omega, by omega⟩, ?_⟩
        generalize s.x.getD (rs1Of w.toNat) 0 = x at *
        generalize s.x.getD (rs2Of w.toNat) 0 = y at *
        rw [setX_cong s _ (show (((x : Int) - (y : Int)) % 18446744073709551616).toNat % 2 ^ 64 = (x + (2 ^ 64 - y)) % 2 ^ 64 by omega)]
        exact off_next g (pc_setX _ _ _)
      · rw [if_neg, if_neg (fun z => d z.2), if_neg (fun z => e z.2), ill]
        simp only [List.contains_cons, List.contains_nil, Bool.or_false, Bool.or_eq_true, beq_iff_eq]
        omega
  · rw [if_neg (by omega), if_neg (fun z => c z.1), if_neg (fun z => c z.1), ill]
theorem g118 : Good tb (tb.fn 118) 2 3 k118 := by
  refine gd118 rfl fun s g o I h => ?_
  unfold k118
  array_get_dec
  refine ⟨by decide, ?_⟩
  by_cases c : ((s.pc : Int) + o) % 18446744073709551616 % 4 = 0
  · rw [if_neg (fun z => z c), if_pos c]
  · rw [if_pos c, if_neg c]
theorem n119 {F : FQ} {Q : PQ} {s : Mach} {g : Nat} {w : Int} : callQ (tb.fn 119) F [.mach, .int w] (enc s g) Q ↔ (Inv s ∧ (0 ≤ w ∧ w < 4294967296)) ∧ (taken (f3Of w.toNat) (s.xr (rs1Of w.toNat)) (s.xr (rs2Of w.toNat)) = none → F 2 w (enc s g)) ∧ ∀ b, taken (f3Of w.toNat) (s.xr (rs1Of w.toNat)) (s.xr (rs2Of w.toNat)) = some b → Q (.bl b) (enc s g) := by
  rw [c119]
  refine and_congr Iff.rfl ?_
  cases h : taken (f3Of w.toNat) (s.xr (rs1Of w.toNat)) (s.xr (rs2Of w.toNat)) with
  | none => exact ⟨fun h => ⟨fun _ => h, fun _ e => by cases e⟩, fun h => h.1 rfl⟩
  | some p => exact ⟨fun h => ⟨fun e => (by cases e), fun _ e => by cases e; exact h⟩, fun h => h.2 p rfl⟩
theorem asS {v : Nat} (h : v < 2 ^ 64) : lowBits 64 true v = asSigned v := by
  unfold lowBits asSigned
  rw [Nat.mod_eq_of_lt h]
  by_cases c : v < 2 ^ 63
  · rw [if_neg (fun z => by have := z.2; omega), if_pos c]
    rfl
  · rw [if_pos ⟨rfl, by omega⟩, if_neg c]
    rfl
theorem g119 : Good tb (tb.fn 119) 2 5 k119 := by
  refine gd119 rfl fun s g w I h => ?_
  unfold k119
  array_get_dec
  have f3 := f3_lt w.toNat
  have r1 := r1_lt w.toNat
  have r2 := r2_lt w.toNat
  have xl := I.xl
  have b1 := I.xlt (rs1Of w.toNat)
  have b2 := I.xlt (rs2Of w.toNat)
  have l1 := asS b1
  have l2 := asS b2
  refine ⟨h, ?_⟩
  rw [I.xr, I.xr]
  have l1' : lowBits (64 : Int).toNat true (s.x.getD (rs1Of w.toNat) 0) = asSigned (s.x.getD (rs1Of w.toNat) 0) := l1
  have l2' : lowBits (64 : Int).toNat true (s.x.getD (rs2Of w.toNat) 0) = asSigned (s.x.getD (rs2Of w.toNat) 0) := l2
  rw [l1', l2']
  have i1 : 0 ≤ ((rs1Of w.toNat : Nat) : Int) ∧ ((rs1Of w.toNat : Nat) : Int) < (s.x.length : Int) := ⟨by omega, by omega⟩
  have i2 : 0 ≤ ((rs2Of w.toNat : Nat) : Int) ∧ ((rs2Of w.toNat : Nat) : Int) < (s.x.length : Int) := ⟨by omega, by omega⟩
  have n1 : 0 ≤ ((s.x.getD (rs1Of w.toNat) 0 : Nat) : Int) := Int.natCast_nonneg _
  have n2 : 0 ≤ ((s.x.getD (rs2Of w.toNat) 0 : Nat) : Int) := Int.natCast_nonneg _
  generalize s.x.getD (rs1Of w.toNat) 0 = x at *
  generalize s.x.getD (rs2Of w.toNat) 0 = y at *
  generalize f3Of w.toNat = z at *
  have hz8 : z = 0 ∨ z = 1 ∨ z = 2 ∨ z = 3 ∨ z = 4 ∨ z = 5 ∨ z = 6 ∨ z = 7 := by omega
  have d1 : (1 : Int) ≤ 64 ∧ (64 : Int) ≤ 64 := by decide
  have xy : ((x : Int) = (y : Int)) = (x = y) := propext (by omega)
  rcases hz8 with rfl | rfl | rfl | rfl | rfl | rfl | rfl | rfl
  · rw [if_pos (by decide), if_pos (by decide)]
    refine ⟨h, i1, h, i2, ?_⟩
    simp only [xy]
    by_cases c : x = y <;> simp [taken, c]
  · rw [if_pos (by decide), if_pos (by decide)]
    refine ⟨h, i1, h, i2, ?_⟩
    simp only [xy]
    by_cases c : x = y <;> simp [taken, c]
  · rw [if_neg (by decide)]
    rfl
  · rw [if_neg (by decide)]
    rfl
  · rw [if_pos (by decide), if_neg (by decide)]
    refine ⟨h, i1, h, i2, ⟨n1, d1⟩, ⟨n2, d1⟩, ?_⟩
    by_cases c : asSigned x < asSigned y <;> simp [taken, c]
  · rw [if_pos (by decide), if_neg (by decide)]
    refine ⟨h, i1, h, i2, ⟨n1, d1⟩, ⟨n2, d1⟩, ?_⟩
    by_cases c : asSigned x < asSigned y
    · simp [taken, c] <;> omega
    · simp [taken, c] <;> omega
  · rw [if_neg (by decide)]
    rfl
  · rw [if_neg (by decide)]
    rfl

end FH
end
section
set_option linter.all false
set_option Elab.async false
set_option maxRecDepth 10000
namespace FH
open RvNum RvMach
local macro_rules | `(tactic| array_get_dec) => `(tactic| simp -implicitDefEqProofs only [senv, List.map_cons, List.map_nil, List.length_cons, List.length_nil, Nat.reduceAdd, Nat.reduceSub, List.replicate_zero, List.replicate_succ, List.cons_append, List.nil_append, List.append_nil, List.set_cons_zero, List.set_cons_succ,
  exs, ex, ↓ev_max2, ↓ev_min2, ↓ev_abs, ev, evs, evAnd, evOr, op2, cp2, onInt, onBl, onSeq, onLst, onTup, onMach, onInts, onSome, intsOf, Option.map_some, Option.map_none, getS_0, getS_n, getS_s, setAll, atQ, fromQ, decide_eq_true_eq, Bool.not_eq_true', decide_eq_false_iff_not, Bool.true_eq_false, Bool.false_eq_true, if_true, if_false, ite_true, ite_false, outQ_ok, outQ_flt, and_true, true_and, PV.int.injEq, PV.bl.injEq, PV.tup.injEq, PV.lst.injEq, c0, c1, c2, c3, c4, c5, c6, c7, c8, c9, c10, c11, c12, c13, c14, c15, c16, c17, c18, c19, c20, c21, c22, c23, c24, c25, c26, c27, c28, c29, c30, n31, c32, c33, c34, c35, c36, c37, c38, c39, c40, c41, c42, c43, c44, n45, c46, c47, c48, c49, c50, c51, c52, c53, c54, c55, c56, c57, c58, c59, c60, c61, c62, c63, c64, c65, c67, c68, c69, c70, c71, c72, n73, c74, c75, c76, c77, c78, c79, c80, c81, c82, c83, c84, c85, c86, c87, c88, c89, c90, c91, c92, c93, n94, n95, c96, c97, c98, n99, c100, c101, c102, c103, n104, c105, c106, c107, c108, c109, c110, n111, c112, c113, c114, c115, c116, c117, c118, n119, c120, c121, c122, c123, c124, c125, c126, c127, c128, c129, c130, c131, c132, c133, c134, c135, tc0, tc1, tc2, tc3, tc4, tc5, tc6, tc7, tc8, tc9, tc10, tc11, tc12, tc13, tc14, tc15, tc16, tc17, tc18, tc19, tc20, tc21, tc22, tc23, tc24, tc25, tc26, tc27, tc28, tc29, tc30, tc31, tc32, tc33, tc34, tc35, tc36, tc37, tc38, tc39, tc40, tc41, tc42, tc43, tc44, tt0, tt1, tt2, tt3, tt4, td0, td1, List.drop_succ_cons, List.drop_zero, outQ_ite, px, pf, pm, fr_, ff_, fp_, fc_, fv_, nI_get, nI_len, bI_get, bI_len, Int.toNat_natCast
, n96, n97])
theorem on_ill (s : Mach) (g : Nat) {w : Int} (h : 0 ≤ w) : on_ s g (illegal w.toNat) = (.flt 2 w, enc s g) := by
  show (Out.flt 2 ((w.toNat : Nat) : Int), enc s g) = _
  rw [Int.toNat_of_nonneg h]
theorem on_jump (s t : Mach) (g p : Nat) : on_ s g (jumpTo t p) = if p % 4 = 0 then (.ok .non, enc { t with pc := p } g) else (.flt 0 (p : Nat), enc s g) := by
  unfold jumpTo
  split <;> rfl
theorem ex99 {s : Mach} {w : Nat} (h : opcodeOf w = 99) : exec s w = match taken (f3Of w) (s.xr (rs1Of w)) (s.xr (rs2Of w)) with
    | none => illegal w
    | some true => jumpTo s (mod64 (s.pc + immB w))
    | some false => nextOf s := by
  unfold exec
  simp [h]
  cases taken (f3Of w) (s.xr (rs1Of w)) (s.xr (rs2Of w)) with
  | none => rfl
  | some b => cases b <;> rfl
theorem ex111 {s : Mach} {w : Nat} (h : opcodeOf w = 111) : exec s w = jumpTo (s.setX (rdOf w) (s.pc + 4)) (mod64 (s.pc + immJ w)) := by
  unfold exec
  simp [h]
theorem g120 : Good tb (tb.fn 120) 2 2 k120 := by
  refine gd120 rfl fun s g w I h => ?_
  unfold k120
  array_get_dec
  obtain ⟨h1, h2, h3, h4⟩ := h
  rw [ex99 h3]
  refine ⟨⟨I, h1, h2⟩, fun ht => by rw [ht, on_ill s g h1], fun b ht => ?_⟩
  rw [ht]
  cases b
  · rw [if_neg (by decide)]
    show (Out.ok PV.non, enc { s with pc := mod64 (s.pc + 4) } g) = (Out.ok PV.non, (enc s g).put .pc (((s.pc + 4 : Nat)) : Int))
    rw [qp_]
    unfold mod64
    rw [Nat.mod_eq_of_lt (by omega)]
  · rw [if_pos rfl, addr (by decide) (by decide)]
    have e : sext 13 (bitsOf w.toNat 31 1 * 2 ^ 12 + bitsOf w.toNat 7 1 * 2 ^ 11 + bitsOf w.toNat 25 6 * 2 ^ 5 + bitsOf w.toNat 8 4 * 2) = immB w.toNat := rfl
    rw [e]
    dsimp only
    rw [on_jump]
    generalize mod64 (s.pc + immB w.toNat) = A
    refine ⟨⟨h1, h2⟩, I, ?_⟩
    by_cases c : A % 4 = 0
    · rw [if_pos (by omega), if_pos c, qp_]
    · rw [if_neg (by omega), if_neg c]
theorem g121 : Good tb (tb.fn 121) 2 3 k121 := by
  refine gd121 rfl fun s g w I h => ?_
  unfold k121
  array_get_dec
  obtain ⟨h1, h2, h3, h4⟩ := h
  rw [ex111 h3, addr (by decide) (by decide)]
  have e : sext 21 (bitsOf w.toNat 31 1 * 2 ^ 20 + bitsOf w.toNat 12 8 * 2 ^ 12 + bitsOf w.toNat 20 1 * 2 ^ 11 + bitsOf w.toNat 21 10 * 2) = immJ w.toNat := rfl
  have rd := rd_lt w.toNat
  rw [e, on_jump]
  generalize mod64 (s.pc + immJ w.toNat) = A
  refine ⟨⟨h1, h2⟩, I, ?_⟩
  by_cases c : A % 4 = 0
  · rw [if_pos (by omega), if_pos c, qp_]
    refine ⟨⟨h1, h2⟩, ⟨I, by omega, by omega⟩, ?_⟩
    have e2 : s.setX (rdOf w.toNat) (((s.pc : Int) + 4) % 18446744073709551616).toNat = s.setX (rdOf w.toNat) (s.pc + 4) := setX_mod s (rdOf w.toNat) (s.pc + 4)
    rw [e2]
  · rw [if_neg (by omega), if_neg c]
theorem wl_ (s : Mach) (g : Nat) : (enc s g).words = nI s.words := rfl
theorem g123 : Good tb (tb.fn 123) 1 1 k123 := by
  refine gd123 rfl fun s g I h => ?_
  unfold k123
  array_get_dec
  rw [wl_, nI_len]
  have i4 : ibits 4 = 3 := by decide
  have wl := I.wl
  have il := ibits_le (n := s.words.length) (k := 11) (by omega)
  refine ⟨by omega, ?_⟩
  have : ((s.pc : Int) = 4 * (s.words.length : Int)) = (s.pc = 4 * s.words.length) := propext (by omega)
  simp only [this]
theorem g124 : Good tb (tb.fn 124) 1 1 k124 := by
  refine gd124 rfl fun s g I h => ?_
  unfold k124
  array_get_dec
  rw [wl_, nI_len, nI_get]
  have i4 : ibits 4 = 3 := by decide
  have wl := I.wl
  have il := ibits_le (n := s.words.length) (k := 11) (by omega)
  refine ⟨by omega, ?_⟩
  by_cases c : 4 * s.words.length < s.pc
  · rw [if_pos (by omega), if_pos (.inl c)]
  · rw [if_neg (by omega)]
    refine ⟨by decide, ?_⟩
    by_cases d : s.pc % 4 = 0
    · rw [if_neg (by omega), if_neg (by omega)]
      refine ⟨by decide, by omega, ?_⟩
      rw [show ((s.pc : Int) / 4).toNat = s.pc / 4 by omega]
    · rw [if_pos (by omega), if_pos (.inr d)]
theorem g127 : Good tb (tb.fn 127) 2 2 k127 := by
  refine gd127 rfl fun s g q I h => ?_
  unfold k127
  array_get_dec
  have xl := I.xl
  have fl := I.fl
  unfold WrrvfpSpec.look
  by_cases c1 : q < 32
  · rw [if_pos c1, if_pos (show q.toNat < 32 by omega)]
    exact ⟨⟨by omega, by omega⟩, rfl⟩
  rw [if_neg c1, if_neg (show ¬ q.toNat < 32 by omega)]
  by_cases c2 : q < 64
  · rw [if_pos c2, if_pos (show q.toNat < 64 by omega), show (q - 32).toNat = q.toNat - 32 by omega]
    exact ⟨⟨by omega, by omega⟩, rfl⟩
  rw [if_neg c2, if_neg (show ¬ q.toNat < 64 by omega)]
  by_cases c3 : q = 64
  · rw [if_pos c3, if_pos (show q.toNat = 64 by omega)]
    rfl
  rw [if_neg c3, if_neg (show ¬ q.toNat = 64 by omega)]
  by_cases c4 : q = 65
  · rw [if_pos c4, if_pos (show q.toNat = 65 by omega)]
    rfl
  rw [if_neg c4, if_neg (show ¬ q.toNat = 65 by omega)]
  by_cases c5 : q = 66
  · rw [if_pos c5, if_pos (show q.toNat = 66 by omega)]
    rfl
  rw [if_neg c5, if_neg (show ¬ q.toNat = 66 by omega)]
  by_cases c6 : q = 67
  · rw [if_pos c6, if_pos (show q.toNat = 67 by omega)]
    rfl
  rw [if_neg c6, if_neg (show ¬ q.toNat = 67 by omega), if_pos (show q.toNat = 68 by omega)]
  rfl
theorem g128 : Good tb (tb.fn 128) 3 3 k128 := by
  refine gd128 rfl fun s g q v I h => ?_
  unfold k128
  array_get_dec
  obtain ⟨hq, hv⟩ := h
  have fl := I.fl
  obtain ⟨v, rfl⟩ := Int.eq_ofNat_of_zero_le hv.1
  have a1 := iAnd_mask v 5 (m := 31) rfl
  have a2 := iAnd_mask v 3 (m := 7) rfl
  unfold WrrvfpSpec.change
  rw [Int.toNat_natCast, setX_mod]
  by_cases c1 : q < 32
  · rw [if_pos c1]
    refine ⟨⟨I, hq.1, c1⟩, ?_⟩
    unfold Mach.setX mod64
    by_cases c0 : q.toNat = 0
    · rw [if_pos c0, if_pos c0]
      rfl
    · rw [if_neg c0, if_neg c0, if_pos (by omega), Nat.mod_eq_of_lt (by omega)]
      rfl
  rw [if_neg c1, if_neg (show ¬ q.toNat = 0 by omega), if_neg (show ¬ q.toNat < 32 by omega)]
  by_cases c2 : q < 64
  · rw [if_pos c2, if_pos (show q.toNat < 64 by omega), nI_set _ _ rfl, lf, show (q - 32).toNat = q.toNat - 32 by omega]
    exact ⟨⟨by omega, by omega⟩, rfl⟩
  rw [if_neg c2, if_neg (show ¬ q.toNat < 64 by omega)]
  by_cases c3 : q = 64
  · rw [if_pos c3, if_pos (show q.toNat = 64 by omega), a2, qr_]
    rfl
  rw [if_neg c3, if_neg (show ¬ q.toNat = 64 by omega)]
  by_cases c4 : q = 65
  · rw [if_pos c4, if_pos (show q.toNat = 65 by omega), a1, qf_]
    rfl
  rw [if_neg c4, if_neg (show ¬ q.toNat = 65 by omega), if_pos (show q.toNat = 66 by omega), qp_]
  rfl
theorem nI_iN : ∀ l : List Int, (∀ w ∈ l, 0 ≤ w) → nI (iN l) = l
  | [], _ => rfl
  | a :: l, h => by
    show ((a.toNat : Nat) : Int) :: nI (iN l) = a :: l
    rw [nI_iN l (fun w hw => h w (List.mem_cons_of_mem _ hw)), Int.toNat_of_nonneg (h a List.mem_cons_self)]
theorem g129 : Good tb (tb.fn 129) 2 2 k129 := by
  refine gd129 rfl fun s g l I h => ?_
  unfold k129
  array_get_dec
  unfold enc
  dsimp only
  rw [nI_iN l h]
  rfl
theorem iB_len (l : List Int) : (iB l).length = l.length := List.length_map _
theorem iB_take (l : List Int) (t : Nat) (h : t < l.length) : iB (l.take (t + 1)) = iB (l.take t) ++ [UInt8.ofNat (l.getD t 0).toNat] := by
  unfold iB
  rw [List.take_add_one, List.map_append, List.getElem?_eq_getElem h]
  rw [List.getD_eq_getElem?_getD, List.getElem?_eq_getElem h]
  rfl
theorem g130 : Good tb (tb.fn 130) 3 5 k130 := by
  refine gd130 rfl fun s g a l I h => ?_
  unfold k130
  array_get_dec
  obtain ⟨h1, h2, h3⟩ := h
  obtain ⟨a, rfl⟩ := Int.eq_ofNat_of_zero_le h1
  have ml := I.ml
  simp only [Int.toNat_natCast]
  refine ⟨fun t σ m' => m' = enc { s with mem := s.mem.take a ++ (iB (l.take t) ++ s.mem.drop (a + t)) } g ∧ t ≤ l.length ∧ ∃ o p, σ = [some .mach, some (.int (a : Nat)), some (.lst l), o, p], ⟨?_, by omega, _, _, rfl⟩, ?_⟩
  · show enc s g = enc { s with mem := s.mem.take a ++ ([] ++ s.mem.drop a) } g
    rw [List.nil_append, List.take_append_drop]
  rintro t σ m' ⟨rfl, ht, o, p, rfl⟩
  by_cases c : t < l.length
  · rw [if_pos c]
    array_get_dec
    have hm : l.getD t 0 ∈ l := by
      rw [List.getD_eq_getElem?_getD, List.getElem?_eq_getElem c]
      exact List.getElem_mem c
    have hx := h3 _ hm
    have L : (s.mem.take a ++ (iB (l.take t) ++ s.mem.drop (a + t))).length = 4096 := by
      simp only [List.length_append, List.length_take, List.length_drop, iB_len]
      omega
    have bl : (iB (l.take t)).length = t := by
      rw [iB_len, List.length_take]
      omega
    rw [show ((a : Int) + (t : Int)).toNat = a + t by omega, bI_set _ _ (show l.getD t 0 = (((l.getD t 0).toNat : Nat) : Int) by omega) (by omega), lm, L]
    refine ⟨⟨by omega, by omega⟩, ?_, by omega, _, _, rfl⟩
    dsimp only
    rw [set_mid _ _ _ _ _ bl (by omega), iB_take l t c]
  · rw [if_neg c]
    have : t = l.length := by omega
    subst this
    rw [List.take_length]

end FH
end
section
set_option linter.all false
set_option Elab.async false
set_option maxRecDepth 10000
namespace FH
open RvNum RvMach
local macro_rules | `(tactic| array_get_dec) => `(tactic| simp -implicitDefEqProofs only [senv, List.map_cons, List.map_nil, List.length_cons, List.length_nil, Nat.reduceAdd, Nat.reduceSub, List.replicate_zero, List.replicate_succ, List.cons_append, List.nil_append, List.append_nil, List.set_cons_zero, List.set_cons_succ,
  exs, ex, ↓ev_max2, ↓ev_min2, ↓ev_abs, ev, evs, evAnd, evOr, op2, cp2, onInt, onBl, onSeq, onLst, onTup, onMach, onInts, onSome, intsOf, Option.map_some, Option.map_none, getS_0, getS_n, getS_s, setAll, atQ, fromQ, decide_eq_true_eq, Bool.not_eq_true', decide_eq_false_iff_not, Bool.true_eq_false, Bool.false_eq_true, if_true, if_false, ite_true, ite_false, outQ_ok, outQ_flt, and_true, true_and, PV.int.injEq, PV.bl.injEq, PV.tup.injEq, PV.lst.injEq, c0, c1, c2, c3, c4, c5, c6, c7, c8, c9, c10, c11, c12, c13, c14, c15, c16, c17, c18, c19, c20, c21, c22, c23, c24, c25, c26, c27, c28, c29, c30, n31, c32, c33, c34, c35, c36, c37, c38, c39, c40, c41, c42, c43, c44, n45, c46, c47, c48, c49, c50, c51, c52, c53, c54, c55, c56, c57, c58, c59, c60, c61, c62, c63, c64, c65, c67, c68, c69, c70, c71, c72, n73, c74, c75, c76, c77, c78, c79, c80, c81, c82, c83, c84, c85, c86, c87, c88, c89, c90, c91, c92, c93, n94, n95, c96, c97, c98, n99, c100, c101, c102, c103, n104, c105, c106, c107, c108, c109, c110, n111, c112, c113, c114, c115, c116, c117, c118, n119, c120, c121, c122, c123, c124, c125, c126, c127, c128, c129, c130, c131, c132, c133, c134, c135, tc0, tc1, tc2, tc3, tc4, tc5, tc6, tc7, tc8, tc9, tc10, tc11, tc12, tc13, tc14, tc15, tc16, tc17, tc18, tc19, tc20, tc21, tc22, tc23, tc24, tc25, tc26, tc27, tc28, tc29, tc30, tc31, tc32, tc33, tc34, tc35, tc36, tc37, tc38, tc39, tc40, tc41, tc42, tc43, tc44, tt0, tt1, tt2, tt3, tt4, td0, td1, List.drop_succ_cons, List.drop_zero, outQ_ite, px, pf, pm, fr_, ff_, fp_, fc_, fv_, nI_get, nI_len, bI_get, bI_len, Int.toNat_natCast
, wl_, n96, n97])
/-! where a word goes on -/
def Nx (s : Mach) (o : Outcome) : Prop := (∃ t, o = nextOf t ∧ t.pc = s.pc ∧ t.words = s.words ∧ Inv t) ∨ ∃ c v, o = .fault c v
theorem nx_ill (s : Mach) (w : Nat) : Nx s (illegal w) := .inr ⟨_, _, rfl⟩
theorem words_setX (s : Mach) (r v : Nat) : (s.setX r v).words = s.words := by
  unfold Mach.setX
  split <;> rfl
theorem nx_setX {s : Mach} (I : Inv s) (r v : Nat) : Nx s (nextOf (s.setX r v)) := .inl ⟨_, rfl, pc_setX _ _ _, words_setX _ _ _, I.setX _ _⟩
theorem nx_intoF {s : Mach} (I : Inv s) (f r : Nat) {p : Nat × Nat} (h : p.2 < 32) : Nx s (intoF s f r p) := .inl ⟨_, rfl, rfl, rfl, (I.raise h).setF _ _ _⟩
theorem nx_intoX {s : Mach} (I : Inv s) (r : Nat) {p : Nat × Nat} (h : p.2 < 32) : Nx s (intoX s r p) := .inl ⟨_, rfl, pc_setX _ _ _, words_setX _ _ _, (I.raise h).setX _ _⟩
theorem nx_ite {s : Mach} {c : Prop} [Decidable c] {A B : Outcome} (h1 : c → Nx s A) (h2 : ¬ c → Nx s B) : Nx s (if c then A else B) := by
  split
  · exact h1 ‹_›
  · exact h2 ‹_›
theorem nx_load {s : Mach} (I : Inv s) (w : Nat) : Nx s (execLoad s w) := by
  cases h : bytesOfF3 (f3Of w) with
  | none =>
    rw [ld_none h]
    exact nx_ill _ _
  | some p =>
    rw [ld_some (a := p.1) (b := p.2) h]
    exact nx_ite (fun _ => .inl ⟨_, rfl, rfl, rfl, I.setF _ _ _⟩) fun _ => .inr ⟨_, _, rfl⟩
theorem nx_store {s : Mach} (I : Inv s) (w : Nat) : Nx s (execStore s w) := by
  cases h : bytesOfF3 (f3Of w) with
  | none =>
    rw [st_none h]
    exact nx_ill _ _
  | some p =>
    rw [st_some (a := p.1) (b := p.2) h]
    refine nx_ite (fun c => .inl ⟨_, rfl, rfl, rfl, I.mem_ ?_⟩) fun _ => .inr ⟨_, _, rfl⟩
    have ml := I.ml
    simp only [List.length_append, List.length_take, List.length_drop, bytesOf_len]
    omega
theorem nx_fused {s : Mach} (I : Inv s) (w o : Nat) : Nx s (execFused s w o) := by
  unfold execFused
  dsimp only
  refine nx_ite (fun _ => nx_ill _ _) fun c => ?_
  have fl := fm_lt w
  split
  · exact nx_ill _ _
  · exact nx_intoF I _ _ (ok_op (by omega) _ _ _ _ _).2
theorem nx_csr {s : Mach} (I : Inv s) {w : Nat} (hw : w ≠ 115) : Nx s (execCsr s w) := by
  unfold execCsr
  dsimp only
  rw [if_neg hw]
  refine nx_ite (fun _ => nx_ill _ _) fun c => ?_
  refine .inl ⟨_, rfl, ?_, ?_, ?_⟩
  · rw [pc_setX]
    split
    · unfold Mach.setCsr
      split
      · rfl
      · split <;> rfl
    · rfl
  · rw [words_setX]
    split
    · unfold Mach.setCsr
      split
      · rfl
      · split <;> rfl
    · rfl
  · refine Inv.setX ?_ _ _
    split
    · exact I.setCsr _ _
    · exact I
theorem nxo_round {s : Mach} (I : Inv s) {w : Nat} (c : fmOf w ≠ 3) (rm : Nat) : ∀ o, execRound s w (fmOf w) rm = some o → Nx s o := by
  have fl := fm_lt w
  have H := isF3 (okFm c)
  intro o h
  by_cases h3 : f5Of w ≤ 3
  · rw [er3 h3] at h
    cases h
    exact nx_intoF I _ _ (ok_op (by omega) _ _ _ _ _).2
  by_cases h11 : f5Of w = 11
  · rw [er11 h11] at h
    split at h <;> cases h
    exact nx_intoF I _ _ (ok_op (by omega) _ _ _ _ _).2
  by_cases h8 : f5Of w = 8
  · rw [er8 h8] at h
    split at h
    · cases h
      exact nx_intoF I _ _ (ok_convert H _ _).2
    · split at h
      · cases h
        exact nx_intoF I _ _ (ok_op (by omega) _ _ _ _ _).2
      · split at h <;> cases h
        exact nx_intoF I _ _ (ok_op (by omega) _ _ _ _ _).2
  by_cases h24 : f5Of w = 24
  · rw [er24 h24] at h
    split at h
    · cases h
      exact nx_intoX I _ (fl_toWhole _ _ _ _)
    · split at h <;> cases h
      exact nx_intoX I _ (fl_toWhole _ _ _ _)
  by_cases h26 : f5Of w = 26
  · rw [er26 h26] at h
    split at h <;> cases h
    exact nx_intoF I _ _ (ok_ofInt H _ _).2
  · rw [er_none ⟨h3, h11, h8, h24, h26⟩] at h
    cases h
theorem nxo_plain {s : Mach} (I : Inv s) {w : Nat} (c : fmOf w ≠ 3) : ∀ o, execPlain s w (fmOf w) = some o → Nx s o := by
  have fl := fm_lt w
  intro o h
  unfold execPlain at h
  dsimp only at h
  split at h
  · cases h
    exact nx_intoF I _ _ (ok_op (by omega) _ _ _ _ _).2
  split at h
  · cases h
    exact nx_intoF I _ _ (ok_op (by omega) _ _ _ _ _).2
  split at h
  · cases hk : kindOf (f3Of w) with
    | none =>
      rw [hk] at h
      cases h
    | some k =>
      rw [hk] at h
      cases h
      exact nx_intoX I _ (fl_compare _ _ _ _)
  split at h
  · cases h
    exact nx_intoX I _ (show 0 < 32 by decide)
  split at h
  · cases h
    exact nx_intoX I _ (show 0 < 32 by decide)
  split at h
  · cases h
    exact nx_intoF I _ _ (show 0 < 32 by decide)
  · cases h
theorem nx_op {s : Mach} (I : Inv s) (w : Nat) : Nx s (execOp s w) := by
  by_cases c : fmOf w = 3
  · rw [xo_3 c]
    exact nx_ill _ _
  cases h : execPlain s w (fmOf w) with
  | some o =>
    rw [xo_plain c h]
    exact nxo_plain I c o h
  | none =>
    unfold execOp
    dsimp only
    rw [if_neg c, h]
    dsimp only
    split
    · exact nx_ill _ _
    · rename_i rm _
      cases hr : execRound s w (fmOf w) rm with
      | none => exact nx_ill _ _
      | some o => exact nxo_round I c rm o hr
theorem nx_exec {s : Mach} (I : Inv s) {w : Nat} (h1 : opcodeOf w ≠ 99) (h2 : opcodeOf w ≠ 111) (h3 : w ≠ 115) : Nx s (exec s w) := by
  unfold exec
  dsimp only
  refine nx_ite (fun _ => nx_setX I _ _) fun _ => nx_ite (fun _ => nx_setX I _ _) fun _ => nx_ite (fun _ => nx_setX I _ _) fun _ => nx_ite (fun _ => nx_setX I _ _) fun _ => ?_
  rw [if_neg h1, if_neg h2]
  exact nx_ite (fun _ => nx_csr I h3) fun _ => nx_ite (fun _ => nx_load I _) fun _ => nx_ite (fun _ => nx_store I _) fun _ => nx_ite (fun _ => nx_fused I _ _) fun _ => nx_ite (fun _ => nx_fused I _ _) fun _ => nx_ite (fun _ => nx_fused I _ _) fun _ => nx_ite (fun _ => nx_fused I _ _) fun _ => nx_ite (fun _ => nx_op I _) fun _ => nx_ill _ _

end FH
end
section
set_option linter.all false
set_option Elab.async false
set_option maxRecDepth 10000
namespace FH
open RvNum RvMach
local macro_rules | `(tactic| array_get_dec) => `(tactic| simp -implicitDefEqProofs only [senv, List.map_cons, List.map_nil, List.length_cons, List.length_nil, Nat.reduceAdd, Nat.reduceSub, List.replicate_zero, List.replicate_succ, List.cons_append, List.nil_append, List.append_nil, List.set_cons_zero, List.set_cons_succ,
  exs, ex, ↓ev_max2, ↓ev_min2, ↓ev_abs, ev, evs, evAnd, evOr, op2, cp2, onInt, onBl, onSeq, onLst, onTup, onMach, onInts, onSome, intsOf, Option.map_some, Option.map_none, getS_0, getS_n, getS_s, setAll, atQ, fromQ, decide_eq_true_eq, Bool.not_eq_true', decide_eq_false_iff_not, Bool.true_eq_false, Bool.false_eq_true, if_true, if_false, ite_true, ite_false, outQ_ok, outQ_flt, and_true, true_and, PV.int.injEq, PV.bl.injEq, PV.tup.injEq, PV.lst.injEq, c0, c1, c2, c3, c4, c5, c6, c7, c8, c9, c10, c11, c12, c13, c14, c15, c16, c17, c18, c19, c20, c21, c22, c23, c24, c25, c26, c27, c28, c29, c30, n31, c32, c33, c34, c35, c36, c37, c38, c39, c40, c41, c42, c43, c44, n45, c46, c47, c48, c49, c50, c51, c52, c53, c54, c55, c56, c57, c58, c59, c60, c61, c62, c63, c64, c65, c67, c68, c69, c70, c71, c72, n73, c74, c75, c76, c77, c78, c79, c80, c81, c82, c83, c84, c85, c86, c87, c88, c89, c90, c91, c92, c93, n94, n95, c96, c97, c98, n99, c100, c101, c102, c103, n104, c105, c106, c107, c108, c109, c110, n111, c112, c113, c114, c115, c116, c117, c118, n119, c120, c121, c122, c123, c124, c125, c126, c127, c128, c129, c130, c131, c132, c133, c134, c135, tc0, tc1, tc2, tc3, tc4, tc5, tc6, tc7, tc8, tc9, tc10, tc11, tc12, tc13, tc14, tc15, tc16, tc17, tc18, tc19, tc20, tc21, tc22, tc23, tc24, tc25, tc26, tc27, tc28, tc29, tc30, tc31, tc32, tc33, tc34, tc35, tc36, tc37, tc38, tc39, tc40, tc41, tc42, tc43, tc44, tt0, tt1, tt2, tt3, tt4, td0, td1, List.drop_succ_cons, List.drop_zero, outQ_ite, px, pf, pm, fr_, ff_, fp_, fc_, fv_, nI_get, nI_len, bI_get, bI_len, Int.toNat_natCast
, wl_, n96, n97])
theorem ex7 {s : Mach} {w : Nat} (h : opcodeOf w = 7) : exec s w = execLoad s w := by
  unfold exec
  simp [h]
theorem ex39 {s : Mach} {w : Nat} (h : opcodeOf w = 39) : exec s w = execStore s w := by
  unfold exec
  simp [h]
theorem ex83 {s : Mach} {w : Nat} (h : opcodeOf w = 83) : exec s w = execOp s w := by
  unfold exec
  simp [h]
theorem ex115 {s : Mach} {w : Nat} (h : opcodeOf w = 115) : exec s w = execCsr s w := by
  unfold exec
  simp [h]
theorem ex_none {s : Mach} {w : Nat} (h : opcodeOf w ≠ 99 ∧ opcodeOf w ≠ 111 ∧ opcodeOf w ≠ 83 ∧ (opcodeOf w ≠ 67 ∧ opcodeOf w ≠ 71 ∧ opcodeOf w ≠ 75 ∧ opcodeOf w ≠ 79) ∧ opcodeOf w ≠ 7 ∧ opcodeOf w ≠ 39 ∧ opcodeOf w ≠ 19 ∧ opcodeOf w ≠ 51 ∧ opcodeOf w ≠ 55 ∧ opcodeOf w ≠ 115) : exec s w = illegal w := by
  obtain ⟨a, b, c, ⟨d, e, f, g⟩, i, j, k, l, m, n⟩ := h
  unfold exec
  simp [a, b, c, d, e, f, g, i, j, k, l, m, n]
theorem opc {w : Nat} : opcodeOf w = w % 128 := by
  unfold opcodeOf bitsOf
  rw [Nat.pow_zero, Nat.div_one]
theorem g122 : Good tb (tb.fn 122) 2 3 k122 := by
  refine gd122 rfl fun s g w I h => ?_
  unfold k122
  array_get_dec
  obtain ⟨h1, h2, n99, n111, h115⟩ := h
  have ill := off_ill s g h1
  have S := off_self s g (exec s w.toNat)
  refine ⟨⟨h1, h2⟩, ?_⟩
  by_cases c1 : opcodeOf w.toNat = 83
  · rw [if_pos (by omega)]
    rw [ex83 c1] at S ⊢
    exact ⟨⟨I, h1, h2⟩, S⟩
  rw [if_neg (by omega)]
  by_cases c2 : opcodeOf w.toNat = 67 ∨ opcodeOf w.toNat = 71 ∨ opcodeOf w.toNat = 75 ∨ opcodeOf w.toNat = 79
  · have e : [(67 : Int), 71, 75, 79].contains ((opcodeOf w.toNat : Nat) : Int) = true := by
      simp only [List.contains_cons, List.contains_nil, Bool.or_false, Bool.or_eq_true, beq_iff_eq]
      omega
    rw [if_pos e]
    refine ⟨⟨I, h1, h2, ?_⟩, S⟩
    have := opc (w := w.toNat)
    omega
  have e : ¬ [(67 : Int), 71, 75, 79].contains ((opcodeOf w.toNat : Nat) : Int) = true := by
    simp only [List.contains_cons, List.contains_nil, Bool.or_false, Bool.or_eq_true, beq_iff_eq]
    omega
  rw [if_neg e]
  by_cases c3 : opcodeOf w.toNat = 7
  · rw [if_pos (by omega)]
    rw [ex7 c3] at S ⊢
    exact ⟨⟨I, h1, h2⟩, S⟩
  rw [if_neg (by omega)]
  by_cases c4 : opcodeOf w.toNat = 39
  · rw [if_pos (by omega)]
    rw [ex39 c4] at S ⊢
    exact ⟨⟨I, h1, h2⟩, S⟩
  rw [if_neg (by omega)]
  by_cases c5 : opcodeOf w.toNat = 19
  · rw [if_pos (by omega)]
    exact ⟨⟨I, h1, h2, c5⟩, S⟩
  rw [if_neg (by omega)]
  by_cases c6 : opcodeOf w.toNat = 51
  · rw [if_pos (by omega)]
    exact ⟨⟨I, h1, h2, c6⟩, S⟩
  rw [if_neg (by omega)]
  by_cases c7 : opcodeOf w.toNat = 55
  · rw [if_pos (by omega)]
    exact ⟨⟨I, h1, h2, c7⟩, S⟩
  rw [if_neg (by omega)]
  by_cases c8 : opcodeOf w.toNat = 115
  · rw [if_pos (by omega)]
    rw [ex115 c8] at S ⊢
    exact ⟨⟨I, h1, h2, h115⟩, S⟩
  rw [if_neg (by omega), ex_none (by omega), ill]
theorem jf {s : Mach} {w : Nat} (h : opcodeOf w = 99 ∨ opcodeOf w = 111) : (∃ t, exec s w = .on t) ∨ ∃ c v, exec s w = .fault c v := by
  have J : ∀ t p, (∃ u, jumpTo t p = .on u) ∨ ∃ c v, jumpTo t p = .fault c v := fun t p => by
    unfold jumpTo
    split
    · exact .inl ⟨_, rfl⟩
    · exact .inr ⟨_, _, rfl⟩
  rcases h with h | h
  · rw [ex99 h]
    cases taken (f3Of w) (s.xr (rs1Of w)) (s.xr (rs2Of w)) with
    | none => exact .inr ⟨_, _, rfl⟩
    | some b =>
      cases b
      · exact .inl ⟨_, rfl⟩
      · exact J _ _
  · rw [ex111 h]
    exact J _ _
theorem ex_stop (s : Mach) : exec s 115 = .stopped { s with pc := mod64 (s.pc + 4) } := rfl
theorem word_lt {s : Mach} (I : Inv s) (i : Nat) : s.words.getD i 0 < 2 ^ 32 := by
  by_cases h : i < s.words.length
  · rw [List.getD_eq_getElem?_getD, List.getElem?_eq_getElem h]
    exact I.ws _ (List.getElem_mem h)
  · rw [List.getD_eq_getElem?_getD, List.getElem?_eq_none (by omega)]
    decide
theorem step_eq {s : Mach} (h : s.pc ≠ 4 * s.words.length) (c : ¬ (4 * s.words.length < s.pc ∨ s.pc % 4 ≠ 0)) : RvMach.step s = exec s (s.words.getD (s.pc / 4) 0) := by
  unfold RvMach.step
  rw [if_neg h, if_neg c]
theorem g125 : Good tb (tb.fn 125) 1 3 k125 := by
  refine gd125 rfl fun s g I h => ?_
  unfold k125
  array_get_dec
  refine ⟨⟨I, h⟩, ?_⟩
  by_cases c : 4 * s.words.length < s.pc ∨ s.pc % 4 ≠ 0
  · rw [if_pos c]
    unfold RvMach.step
    rw [if_neg h, if_pos c]
    rfl
  rw [if_neg c, step_eq h c]
  have wl := word_lt I (s.pc / 4)
  have ll := I.wl
  have e0 : step_ s g = fun o => match o with
      | .on s' => (.ok (.int (s.words.getD (s.pc / 4) 0 : Nat)), enc s' g)
      | .stopped s' => (.ok (.int (s.words.getD (s.pc / 4) 0 : Nat)), enc s' g)
      | .fault c v => (.flt c v, enc s g)
      | _ => (.ok .non, enc s g) := rfl
  generalize s.words.getD (s.pc / 4) 0 = w at *
  have hw : 0 ≤ (w : Int) ∧ (w : Int) < 4294967296 := ⟨by omega, by omega⟩
  refine ⟨hw, ?_⟩
  by_cases c1 : opcodeOf w = 99
  · rw [if_pos (by omega)]
    refine ⟨⟨I, hw.1, hw.2, c1, by omega⟩, ?_⟩
    rcases jf (s := s) (.inl c1) with ⟨t, e⟩ | ⟨a, b, e⟩ <;> rw [e, e0] <;> rfl
  rw [if_neg (by omega)]
  by_cases c2 : opcodeOf w = 111
  · rw [if_pos (by omega)]
    refine ⟨⟨I, hw.1, hw.2, c2, by omega⟩, ?_⟩
    rcases jf (s := s) (.inr c2) with ⟨t, e⟩ | ⟨a, b, e⟩ <;> rw [e, e0] <;> rfl
  rw [if_neg (by omega)]
  by_cases c3 : w = 115
  · rw [if_neg (by omega)]
    subst c3
    rw [ex_stop, e0]
    show (Out.ok (.int ((115 : Nat) : Int)), enc { s with pc := mod64 (s.pc + 4) } g) = (Out.ok (.int ((115 : Nat) : Int)), (enc s g).put .pc ((s.pc + 4 : Nat) : Int))
    rw [qp_]
    unfold mod64
    rw [Nat.mod_eq_of_lt (by omega)]
  · rw [if_pos (by omega)]
    refine ⟨⟨I, hw.1, hw.2, c1, c2, by omega⟩, ?_⟩
    rcases nx_exec I c1 c2 c3 with ⟨t, e, e2, _, _⟩ | ⟨a, b, e⟩
    · rw [e, off_next g e2, e0, outQ_ok]
      show (Out.ok (.int (w : Int)), enc { t with pc := mod64 (t.pc + 4) } g) = (Out.ok (.int (w : Int)), (enc t g).put .pc ((t.pc + 4 : Nat) : Int))
      rw [qp_]
      unfold mod64
      rw [Nat.mod_eq_of_lt (by omega)]
    · rw [e, e0]
      rfl
/-! exchange_control -/
theorem csr_lt {s : Mach} (I : Inv s) (n : Nat) : s.csr n < 256 := by
  have := I.frm
  have := I.ffl
  unfold Mach.csr
  split
  · omega
  · split <;> omega
theorem set_comm (s : Mach) (n u r v : Nat) : (s.setX r v).setCsr n u = (s.setCsr n u).setX r v := by
  have e : ∀ s : Mach, s.setX r v = if r = 0 then s else { s with x := s.x.set r (mod64 v) } := fun _ => rfl
  have d : ∀ s : Mach, s.setCsr n u = if n = 1 then { s with fflags := u % 32 } else if n = 2 then { s with frm := u % 8 } else { s with fflags := u % 32, frm := u / 32 % 8 } := fun _ => rfl
  by_cases h : r = 0
  · rw [e, e, if_pos h, if_pos h]
  · rw [e, e, if_neg h, if_neg h]
    by_cases h1 : n = 1
    · rw [d, d, if_pos h1, if_pos h1]
    · by_cases h2 : n = 2
      · rw [d, d, if_neg h1, if_neg h1, if_pos h2, if_pos h2]
      · rw [d, d, if_neg h1, if_neg h1, if_neg h2, if_neg h2]
theorem g91t {F : FQ} {s : Mach} {g : Nat} {w : Int} {a n r v : Nat} {N : NQ} {R : PQ} (I : Inv s) (hw : 0 ≤ w ∧ w < 4294967296) (ha : a % 4 ≠ 0) (hn : 1 ≤ n ∧ n ≤ 3) (hv : v < 2 ^ 64)
    (h : ∀ σ, N σ (enc ((if a % 4 = 1 ∨ r ≠ 0 then s.setCsr n (if a % 4 = 1 then v else if a % 4 = 2 then Nat.lor (s.csr n) v else Nat.land (s.csr n) (Nat.xor (2 ^ 64 - 1) v)) else s).setX (rdOf w.toNat) (s.csr n)) g)) :
    exs tb F (.cons (.set 6 (.call 88 (.cons (.var 0) (.cons (.var 3) .nil)))) (.cons (.drop (.meth 67 (.var 0) (.cons (.call 75 (.cons (.var 1) .nil)) (.cons (.var 6) .nil)))) (.cons (.ite (.disj (.cons (.cmp .eq (.bin .mod (.var 2) (.int 4)) (.int 1)) (.cons (.cmp .ne (.var 4) (.int 0)) .nil))) (.cons (.drop (.call 89 (.cons (.var 0) (.cons (.var 3) (.cons (.call 90 (.cons (.bin .mod (.var 2) (.int 4)) (.cons (.var 6) (.cons (.var 5) .nil)))) .nil))))) .nil) .nil) .nil)))
      [some .mach, some (.int w), some (.int (a : Nat)), some (.int (n : Nat)), some (.int (r : Nat)), some (.int (v : Nat)), none] (enc s g) N R := by
  array_get_dec
  have cl := csr_lt I n
  have rd := rd_lt w.toNat
  simp only [setX_mod]
  have a4 : ((a : Int) % 4 = 1) = (a % 4 = 1) := propext (by omega)
  have a5 : ((a : Int) % 4 = 2) = (a % 4 = 2) := propext (by omega)
  have r0 : ((r : Int) = 0) = (r = 0) := propext (by omega)
  simp only [a4, a5, r0]
  have p90 : (1 ≤ (a : Int) % 4 ∧ (a : Int) % 4 ≤ 3) ∧ (0 ≤ ((s.csr n : Nat) : Int) ∧ ((s.csr n : Nat) : Int) < 18446744073709551616) ∧ 0 ≤ (v : Int) ∧ (v : Int) < 18446744073709551616 := ⟨⟨by omega, by omega⟩, ⟨by omega, by omega⟩, by omega, by omega⟩
  have IX := I.setX (rdOf w.toNat) (s.csr n)
  refine ⟨⟨I, by omega, by omega⟩, hw, ⟨I, by omega, by omega⟩, by decide, ?_⟩
  by_cases c1 : a % 4 = 1
  · rw [if_pos c1]
    refine ⟨by decide, p90, ⟨IX, ⟨by omega, by omega⟩, Int.natCast_nonneg _⟩, ?_⟩
    rw [set_comm]
    have := h [some PV.mach, some (PV.int w), some (PV.int (a : Int)), some (PV.int (n : Int)), some (PV.int (r : Int)), some (PV.int (v : Int)), some (PV.int ((s.csr n : Nat) : Int))]
    rw [if_pos (show a % 4 = 1 ∨ r ≠ 0 from .inl c1)] at this
    exact this
  · rw [if_neg c1]
    by_cases c2 : r = 0
    · rw [if_neg (fun z => z c2)]
      have := h [some PV.mach, some (PV.int w), some (PV.int (a : Int)), some (PV.int (n : Int)), some (PV.int (r : Int)), some (PV.int (v : Int)), some (PV.int ((s.csr n : Nat) : Int))]
      rw [if_neg (show ¬ (a % 4 = 1 ∨ r ≠ 0) from fun z => z.elim c1 (fun y => y c2))] at this
      exact this
    · rw [if_pos c2]
      refine ⟨by decide, p90, ⟨IX, ⟨by omega, by omega⟩, Int.natCast_nonneg _⟩, ?_⟩
      rw [set_comm]
      have := h [some PV.mach, some (PV.int w), some (PV.int (a : Int)), some (PV.int (n : Int)), some (PV.int (r : Int)), some (PV.int (v : Int)), some (PV.int ((s.csr n : Nat) : Int))]
      rw [if_pos (show a % 4 = 1 ∨ r ≠ 0 from .inr c2)] at this
      exact this
theorem g91h {F : FQ} {s : Mach} {g : Nat} {w : Int} {N : NQ} {R : PQ} {tl : Sts} (I : Inv s) (hw : 0 ≤ w ∧ w < 4294967296) (hbad : f3Of w.toNat % 4 = 0 ∨ bitsOf w.toNat 20 12 = 0 ∨ 3 < bitsOf w.toNat 20 12 → F 2 w (enc s g))
    (h : f3Of w.toNat % 4 ≠ 0 → 1 ≤ bitsOf w.toNat 20 12 → bitsOf w.toNat 20 12 ≤ 3 → exs tb F tl [some .mach, some (.int w), some (.int (f3Of w.toNat : Nat)), some (.int (bitsOf w.toNat 20 12 : Nat)), some (.int (rs1Of w.toNat : Nat)), some (.int ((if f3Of w.toNat < 4 then s.xr (rs1Of w.toNat) else rs1Of w.toNat : Nat) : Int)), none] (enc s g) N R) :
    exs tb F (.cons (.set 2 (.call 76 (.cons (.var 1) .nil))) (.cons (.set 3 (.call 83 (.cons (.var 1) .nil))) (.cons (.drop (.call 73 (.cons (.conj (.cons (.isin true (.var 2) (.cons (.int 0) (.cons (.int 4) .nil))) (.cons (.isin false (.var 3) (.cons (.con 19) (.cons (.con 20) (.cons (.con 21) .nil)))) .nil))) (.cons (.var 1) .nil)))) (.cons (.set 4 (.call 77 (.cons (.var 1) .nil))) (.cons (.set 5 (.ite (.cmp .lt (.var 2) (.int 4)) (.part .x (.var 0) (.var 4)) (.var 4))) tl)))))
      (senv 7 [.mach, .int w]) (enc s g) N R := by
  array_get_dec
  have f3 := f3_lt w.toNat
  have r1 := r1_lt w.toNat
  have xl := I.xl
  refine ⟨hw, hw, ?_⟩
  by_cases c1 : f3Of w.toNat % 4 = 0
  · have e : ¬ [(0 : Int), 4].contains ((f3Of w.toNat : Nat) : Int) = false := by
      rw [Bool.not_eq_false]
      simp only [List.contains_cons, List.contains_nil, Bool.or_false, Bool.or_eq_true, beq_iff_eq]
      omega
    rw [if_neg e]
    exact hbad (.inl c1)
  have e : [(0 : Int), 4].contains ((f3Of w.toNat : Nat) : Int) = false := by
    rw [← Bool.not_eq_true]
    simp only [List.contains_cons, List.contains_nil, Bool.or_false, Bool.or_eq_true, beq_iff_eq]
    omega
  rw [if_pos e]
  by_cases c2 : 1 ≤ bitsOf w.toNat 20 12 ∧ bitsOf w.toNat 20 12 ≤ 3
  · have e2 : [(1 : Int), 2, 3].contains ((bitsOf w.toNat 20 12 : Nat) : Int) = true := by
      simp only [List.contains_cons, List.contains_nil, Bool.or_false, Bool.or_eq_true, beq_iff_eq]
      omega
    rw [if_pos e2]
    refine ⟨hw, ?_⟩
    have H := h c1 c2.1 c2.2
    by_cases c3 : f3Of w.toNat < 4
    · rw [if_pos (by omega)]
      rw [if_pos c3, I.xr] at H
      exact ⟨⟨by omega, by omega⟩, H⟩
    · rw [if_neg (by omega)]
      rw [if_neg c3] at H
      exact H
  · have e2 : ¬ [(1 : Int), 2, 3].contains ((bitsOf w.toNat 20 12 : Nat) : Int) = true := by
      simp only [List.contains_cons, List.contains_nil, Bool.or_false, Bool.or_eq_true, beq_iff_eq]
      omega
    rw [if_neg e2]
    exact hbad (by omega)
theorem csr_ok {s : Mach} {w : Nat} (h : w ≠ 115) (h1 : f3Of w % 4 ≠ 0) (h2 : 1 ≤ bitsOf w 20 12) (h3 : bitsOf w 20 12 ≤ 3) : execCsr s w = nextOf ((if f3Of w % 4 = 1 ∨ rs1Of w ≠ 0 then s.setCsr (bitsOf w 20 12) (if f3Of w % 4 = 1 then (if f3Of w < 4 then s.xr (rs1Of w) else rs1Of w) else if f3Of w % 4 = 2 then Nat.lor (s.csr (bitsOf w 20 12)) (if f3Of w < 4 then s.xr (rs1Of w) else rs1Of w) else Nat.land (s.csr (bitsOf w 20 12)) (Nat.xor (2 ^ 64 - 1) (if f3Of w < 4 then s.xr (rs1Of w) else rs1Of w))) else s).setX (rdOf w) (s.csr (bitsOf w 20 12))) := by
  unfold execCsr
  dsimp only
  rw [if_neg h, if_neg (by omega)]
theorem csr_bad {s : Mach} {w : Nat} (h : w ≠ 115) (h1 : f3Of w % 4 = 0 ∨ bitsOf w 20 12 = 0 ∨ 3 < bitsOf w 20 12) : execCsr s w = illegal w := by
  unfold execCsr
  dsimp only
  rw [if_neg h, if_pos h1]
theorem g91 : Good tb (tb.fn 91) 2 7 k91 := by
  refine gd91 rfl fun s g w I h => ?_
  obtain ⟨h1, h2, h3⟩ := h
  refine g91h I ⟨h1, h2⟩ (fun hb => ?_) fun a1 a2 a3 => g91t I ⟨h1, h2⟩ a1 ⟨a2, a3⟩ ?_ fun σ => ?_
  · rw [csr_bad (by omega) hb, off_ill s g h1]
  · split
    · rw [I.xr]
      exact I.xlt _
    · have := r1_lt w.toNat
      omega
  · rw [csr_ok (by omega) a1 a2 a3]
    refine off_next g ?_
    rw [pc_setX]
    split
    · unfold Mach.setCsr
      split
      · rfl
      · split <;> rfl
    · rfl

end FH
end
section
set_option linter.all false
set_option Elab.async false
set_option maxRecDepth 10000
namespace FH
open RvNum RvMach
local macro_rules | `(tactic| array_get_dec) => `(tactic| simp -implicitDefEqProofs only [senv, List.map_cons, List.map_nil, List.length_cons, List.length_nil, Nat.reduceAdd, Nat.reduceSub, List.replicate_zero, List.replicate_succ, List.cons_append, List.nil_append, List.append_nil, List.set_cons_zero, List.set_cons_succ,
  exs, ex, ↓ev_max2, ↓ev_min2, ↓ev_abs, ev, evs, evAnd, evOr, op2, cp2, onInt, onBl, onSeq, onLst, onTup, onMach, onInts, onSome, intsOf, Option.map_some, Option.map_none, getS_0, getS_n, getS_s, setAll, atQ, fromQ, decide_eq_true_eq, Bool.not_eq_true', decide_eq_false_iff_not, Bool.true_eq_false, Bool.false_eq_true, if_true, if_false, ite_true, ite_false, outQ_ok, outQ_flt, and_true, true_and, PV.int.injEq, PV.bl.injEq, PV.tup.injEq, PV.lst.injEq, c0, c1, c2, c3, c4, c5, c6, c7, c8, c9, c10, c11, c12, c13, c14, c15, c16, c17, c18, c19, c20, c21, c22, c23, c24, c25, c26, c27, c28, c29, c30, n31, c32, c33, c34, c35, c36, c37, c38, c39, c40, c41, c42, c43, c44, n45, c46, c47, c48, c49, c50, c51, c52, c53, c54, c55, c56, c57, c58, c59, c60, c61, c62, c63, c64, c65, c67, c68, c69, c70, c71, c72, n73, c74, c75, c76, c77, c78, c79, c80, c81, c82, c83, c84, c85, c86, c87, c88, c89, c90, c91, c92, c93, n94, n95, c96, c97, c98, n99, c100, c101, c102, c103, n104, c105, c106, c107, c108, c109, c110, n111, c112, c113, c114, c115, c116, c117, c118, n119, c120, c121, c122, c123, c124, c125, c126, c127, c128, c129, c130, c131, c132, c133, c134, c135, tc0, tc1, tc2, tc3, tc4, tc5, tc6, tc7, tc8, tc9, tc10, tc11, tc12, tc13, tc14, tc15, tc16, tc17, tc18, tc19, tc20, tc21, tc22, tc23, tc24, tc25, tc26, tc27, tc28, tc29, tc30, tc31, tc32, tc33, tc34, tc35, tc36, tc37, tc38, tc39, tc40, tc41, tc42, tc43, tc44, tt0, tt1, tt2, tt3, tt4, td0, td1, List.drop_succ_cons, List.drop_zero, outQ_ite, px, pf, pm, fr_, ff_, fp_, fc_, fv_, nI_get, nI_len, bI_get, bI_len, Int.toNat_natCast
, wl_, n96, n97])
theorem cnt_rd {z : Int} (h : 0 ≤ z ∧ z ≤ 12) : 0 ≤ cntL.getD z.toNat 0 ∧ cntL.getD z.toNat 0 ≤ 6 := by
  have : z = 0 ∨ z = 1 ∨ z = 2 ∨ z = 3 ∨ z = 4 ∨ z = 5 ∨ z = 6 ∨ z = 7 ∨ z = 8 ∨ z = 9 ∨ z = 10 ∨ z = 11 ∨ z = 12 := by omega
  rcases this with rfl | rfl | rfl | rfl | rfl | rfl | rfl | rfl | rfl | rfl | rfl | rfl | rfl <;> decide
theorem g132 : Good tb (tb.fn 132) 2 4 k132 := by
  refine gd132 rfl fun F μ l a h => ?_
  unfold k132
  array_get_dec
  obtain ⟨h1, h2, h3⟩ := h
  have cr := cnt_rd h2
  unfold sizeN
  have ec : [(6 : Int), 4, 2, 4, 4, 4, 0, 1, 1, 1, 2, 2, 2] = cntL := rfl
  rw [ec]
  refine ⟨h1, ⟨h2.1, by have := h2.2; show _ < ((13 : Nat) : Int); omega⟩, ?_⟩
  generalize l.getD a.toNat 0 = q at *
  generalize cntL.getD q.toNat 0 = c at *
  rw [show a + (1 + c) - 1 = a + c by omega]
  by_cases c1 : q = 7
  · rw [if_pos c1, if_pos (.inl c1)]
    have := h3 (.inl c1)
    exact ⟨⟨by omega, this⟩, rfl⟩
  rw [if_neg c1]
  by_cases c2 : q = 12
  · rw [if_pos c2, if_pos (.inr c2)]
    have := h3 (.inr c2)
    exact ⟨⟨by omega, this⟩, rfl⟩
  rw [if_neg c2, if_neg (fun z => z.elim c1 c2), Int.add_zero]
/-! a call's numbers -/
theorem ask_nat {q : Int} {l : List Int} (h : askN q l) : ∃ ns : List Nat, l = nI ns ∧ ns.length = l.length ∧ ∀ v ∈ ns, v < 2 ^ 64 := by
  refine ⟨iN l, (nI_iN l fun w hw => (h.1 w hw).1).symm, List.length_map _, fun v hv => ?_⟩
  obtain ⟨x, hx, rfl⟩ := List.mem_map.mp hv
  have := h.1 x hx
  omega
theorem ask_0 {l : List Int} (h : askN 0 l) : ∃ a b c d e f : Nat, l = nI [a, b, c, d, e, f] := by
  obtain ⟨ns, rfl, hl, _⟩ := ask_nat h
  have h2 : ((nI ns).length : Int) = 6 := h.2
  rw [nI_len] at h2
  match ns, h2 with
  | [a, b, c, d, e, f], _ => exact ⟨_, _, _, _, _, _, rfl⟩
theorem ask_4 {q : Int} {l : List Int} (hq : q = 1 ∨ q = 3 ∨ q = 4 ∨ q = 5) (h : askN q l) : ∃ a b c d : Nat, l = nI [a, b, c, d] := by
  obtain ⟨ns, rfl, hl, _⟩ := ask_nat h
  have h2 : ((nI ns).length : Int) = 4 := by
    rcases hq with rfl | rfl | rfl | rfl <;> exact h.2
  rw [nI_len] at h2
  match ns, h2 with
  | [a, b, c, d], _ => exact ⟨_, _, _, _, rfl⟩
theorem ask_2 {q : Int} {l : List Int} (hq : q = 2 ∨ q = 10 ∨ q = 11) (h : askN q l) : ∃ a b : Nat, l = nI [a, b] ∧ a < 2 ^ 64 ∧ b < 2 ^ 64 := by
  obtain ⟨ns, rfl, hl, hb⟩ := ask_nat h
  have h2 : ((nI ns).length : Int) = 2 := by
    rcases hq with rfl | rfl | rfl <;> exact h.2
  rw [nI_len] at h2
  match ns, h2, hb with
  | [a, b], _, hb => exact ⟨_, _, rfl, hb _ (by simp), hb _ (by simp)⟩
theorem ask_1 {q : Int} {l : List Int} (hq : q = 8 ∨ q = 9) (h : askN q l) : ∃ a : Nat, l = nI [a] := by
  obtain ⟨ns, rfl, hl, hb⟩ := ask_nat h
  have h2 : ((nI ns).length : Int) = 1 := by
    rcases hq with rfl | rfl <;> exact h.2
  rw [nI_len] at h2
  match ns, h2 with
  | [a], _ => exact ⟨_, rfl⟩
theorem ask_6 {l : List Int} (h : askN 6 l) : l = [] := by
  have h2 : (l.length : Int) = 0 := h.2
  match l, h2 with
  | [], _ => rfl
theorem di (a b : Nat) : decide ((a : Int) ≤ (b : Int)) = decide (a ≤ b) := by
  rw [decide_eq_decide]
  omega
theorem lim_0 (a b c d e f : Nat) : inLim 0 (nI [a, b, c, d, e, f]) = (decide (a ≤ 2) && (decide (b ≤ 15) && decide (c ≤ 4))) := by
  show ((decide ((a : Int) ≤ ((2 : Nat) : Int)) && (decide ((b : Int) ≤ ((15 : Nat) : Int)) && (decide ((c : Int) ≤ ((4 : Nat) : Int)) && true))) && true) = _
  simp only [di, Bool.and_true]
theorem lim_1 (a b c d : Nat) : inLim 1 (nI [a, b, c, d]) = (decide (a ≤ 2) && decide (b ≤ 4)) := by
  show ((decide ((a : Int) ≤ ((2 : Nat) : Int)) && (decide ((b : Int) ≤ ((4 : Nat) : Int)) && true)) && true) = _
  simp only [di, Bool.and_true]
theorem lim_2 (a b : Nat) : inLim 2 (nI [a, b]) = decide (a ≤ 2) := by
  show ((decide ((a : Int) ≤ ((2 : Nat) : Int)) && true) && true) = _
  simp only [di, Bool.and_true]
theorem lim_3 (a b c d : Nat) : inLim 3 (nI [a, b, c, d]) = (decide (a ≤ 2) && (decide (b ≤ 2) && decide (c ≤ 4))) := by
  show ((decide ((a : Int) ≤ ((2 : Nat) : Int)) && (decide ((b : Int) ≤ ((2 : Nat) : Int)) && (decide ((c : Int) ≤ ((4 : Nat) : Int)) && true))) && true) = _
  simp only [di, Bool.and_true]
theorem lim_4 (a b c d : Nat) : inLim 4 (nI [a, b, c, d]) = (decide (a ≤ 2) && (decide (b ≤ 7) && decide (c ≤ 4))) := by
  show ((decide ((a : Int) ≤ ((2 : Nat) : Int)) && (decide ((b : Int) ≤ ((7 : Nat) : Int)) && (decide ((c : Int) ≤ ((4 : Nat) : Int)) && true))) && true) = _
  simp only [di, Bool.and_true]
theorem lim_5 (a b c d : Nat) : inLim 5 (nI [a, b, c, d]) = (decide (a ≤ 2) && (decide (b ≤ 7) && decide (c ≤ 4))) := by
  show ((decide ((a : Int) ≤ ((2 : Nat) : Int)) && (decide ((b : Int) ≤ ((7 : Nat) : Int)) && (decide ((c : Int) ≤ ((4 : Nat) : Int)) && true))) && true) = _
  simp only [di, Bool.and_true]
theorem lim_8 (a : Nat) : inLim 8 (nI [a]) = decide (a ≤ 1000) := by
  show ((decide ((a : Int) ≤ ((1000 : Nat) : Int)) && true) && true) = _
  simp only [di, Bool.and_true]
theorem lim_9 (a : Nat) : inLim 9 (nI [a]) = decide (a ≤ 68) := by
  show ((decide ((a : Int) ≤ ((68 : Nat) : Int)) && true) && true) = _
  simp only [di, Bool.and_true]
theorem lim_10 (a b : Nat) : inLim 10 (nI [a, b]) = decide (a ≤ 66) := by
  show ((decide ((a : Int) ≤ ((66 : Nat) : Int)) && true) && true) = _
  simp only [di, Bool.and_true]
theorem lim_11 (a b : Nat) : inLim 11 (nI [a, b]) = decide (a + b ≤ 4096) := by
  show (true && decide ((a : Int) + (b : Int) ≤ ((4096 : Nat) : Int))) = _
  rw [← Int.natCast_add, di, Bool.true_and]
theorem lim_7 (a : Nat) (r : List Nat) : inLim 7 (nI (a :: r)) = decide (a ≤ 1024) := by
  show ((decide ((a : Int) ≤ ((1024 : Nat) : Int)) && true) && true) = _
  simp only [di, Bool.and_true]
theorem lim_12 (a b : Nat) (r : List Nat) : inLim 12 (nI (a :: b :: r)) = decide (a + b ≤ 4096) := by
  show (true && decide ((a : Int) + (b : Int) ≤ ((4096 : Nat) : Int))) = _
  rw [← Int.natCast_add, di, Bool.true_and]
/-! what the calls are -/
section
open WrrvfpSpec
theorem cl_0 (a b c d e f : Nat) : callN 0 (nI [a, b, c, d, e, f]) = .op a b c d e f := rfl
theorem cl_1 (a b c d : Nat) : callN 1 (nI [a, b, c, d]) = .compare a b c d := rfl
theorem cl_2 (a b : Nat) : callN 2 (nI [a, b]) = .class_ a b := rfl
theorem cl_3 (a b c d : Nat) : callN 3 (nI [a, b, c, d]) = .convert a b c d := rfl
theorem cl_4 (a b c d : Nat) : callN 4 (nI [a, b, c, d]) = .toInt a b c d := rfl
theorem cl_5 (a b c d : Nat) : callN 5 (nI [a, b, c, d]) = .fromInt a b c d := rfl
theorem cl_6 : callN 6 [] = .new_ := rfl
theorem cl_7 (a : Nat) (r : List Nat) : callN 7 (nI (a :: r)) = .program r := by
  show Call.program (iN (nI r)) = _
  rw [iN_nI]
theorem cl_8 (a : Nat) : callN 8 (nI [a]) = .run a := rfl
theorem cl_9 (a : Nat) : callN 9 (nI [a]) = .get a := rfl
theorem cl_10 (a b : Nat) : callN 10 (nI [a, b]) = .set a b := rfl
theorem cl_11 (a b : Nat) : callN 11 (nI [a, b]) = .read a b := rfl
theorem cl_12 (a b : Nat) (r : List Nat) : callN 12 (nI (a :: b :: r)) = .write a r := by
  show Call.write a (iN (nI r)) = _
  rw [iN_nI]
end

end FH
end
section
set_option linter.all false
set_option Elab.async false
set_option maxRecDepth 10000
namespace FH
open RvNum RvMach
local macro_rules | `(tactic| array_get_dec) => `(tactic| simp -implicitDefEqProofs only [senv, List.map_cons, List.map_nil, List.length_cons, List.length_nil, Nat.reduceAdd, Nat.reduceSub, List.replicate_zero, List.replicate_succ, List.cons_append, List.nil_append, List.append_nil, List.set_cons_zero, List.set_cons_succ,
  exs, ex, ↓ev_max2, ↓ev_min2, ↓ev_abs, ev, evs, evAnd, evOr, op2, cp2, onInt, onBl, onSeq, onLst, onTup, onMach, onInts, onSome, intsOf, Option.map_some, Option.map_none, getS_0, getS_n, getS_s, setAll, atQ, fromQ, decide_eq_true_eq, Bool.not_eq_true', decide_eq_false_iff_not, Bool.true_eq_false, Bool.false_eq_true, if_true, if_false, ite_true, ite_false, outQ_ok, outQ_flt, and_true, true_and, PV.int.injEq, PV.bl.injEq, PV.tup.injEq, PV.lst.injEq, c0, c1, c2, c3, c4, c5, c6, c7, c8, c9, c10, c11, c12, c13, c14, c15, c16, c17, c18, c19, c20, c21, c22, c23, c24, c25, c26, c27, c28, c29, c30, n31, c32, c33, c34, c35, c36, c37, c38, c39, c40, c41, c42, c43, c44, n45, c46, c47, c48, c49, c50, c51, c52, c53, c54, c55, c56, c57, c58, c59, c60, c61, c62, c63, c64, c65, c67, c68, c69, c70, c71, c72, n73, c74, c75, c76, c77, c78, c79, c80, c81, c82, c83, c84, c85, c86, c87, c88, c89, c90, c91, c92, c93, n94, n95, c96, c97, c98, n99, c100, c101, c102, c103, n104, c105, c106, c107, c108, c109, c110, n111, c112, c113, c114, c115, c116, c117, c118, n119, c120, c121, c122, c123, c124, c125, c126, c127, c128, c129, c130, c131, c132, c133, c134, c135, tc0, tc1, tc2, tc3, tc4, tc5, tc6, tc7, tc8, tc9, tc10, tc11, tc12, tc13, tc14, tc15, tc16, tc17, tc18, tc19, tc20, tc21, tc22, tc23, tc24, tc25, tc26, tc27, tc28, tc29, tc30, tc31, tc32, tc33, tc34, tc35, tc36, tc37, tc38, tc39, tc40, tc41, tc42, tc43, tc44, tt0, tt1, tt2, tt3, tt4, td0, td1, List.drop_succ_cons, List.drop_zero, outQ_ite, px, pf, pm, fr_, ff_, fp_, fc_, fv_, nI_get, nI_len, bI_get, bI_len, Int.toNat_natCast
, wl_, n96, n97])
theorem told_two (b : Bool) (p : Nat × Nat) (h : b = true) : (Neutral.told (WrrvfpSpec.told b p)) = [0, (p.1 : Int), (p.2 : Int)] := by
  subst h
  rfl
theorem a3 {a b c : Bool} (h : (a && (b && c)) = true) : a = true ∧ b = true ∧ c = true := by
  cases a <;> cases b <;> cases c <;> simp at h ⊢
theorem tn0 : (0 : Int).toNat = 0 := rfl
theorem tn1 : (1 : Int).toNat = 1 := rfl
theorem tn2 : (2 : Int).toNat = 2 := rfl
theorem tn3 : (3 : Int).toNat = 3 := rfl
theorem cut36 (a b c d e f : Nat) : cutI (nI [a, b, c, d, e, f]) 3 6 = [(d : Int), (e : Int), (f : Int)] := rfl
theorem g134 : Good tb (tb.fn 134) 2 2 k134 := by
  refine gd134 rfl fun F μ q l h => ?_
  unfold k134
  obtain ⟨hq, ha, hl⟩ := h
  have hq5 : q = 0 ∨ q = 1 ∨ q = 2 ∨ q = 3 ∨ q = 4 ∨ q = 5 := by omega
  have nn : ∀ n : Nat, 0 ≤ (n : Int) := fun n => Int.natCast_nonneg n
  rcases hq5 with rfl | rfl | rfl | rfl | rfl | rfl
  · obtain ⟨a, b, c, d, e, f, rfl⟩ := ask_0 ha
    rw [lim_0] at hl
    obtain ⟨l1, l2, l3⟩ := a3 hl
    rw [cl_0]
    have S : (WrrvfpSpec.step blank (.op a b c d e f)).2 = WrrvfpSpec.told (decide (a ≤ 2) && (decide (b ≤ 15) && decide (c ≤ 4))) (RvNum.op a b c d e f) := rfl
    rw [S, told_two _ _ hl]
    array_get_dec
    rw [decide_eq_true_eq] at l1 l2 l3
    simp only [cut36, tn0, tn1, tn2, tn3, List.getD_cons_zero, List.getD_cons_succ, Int.toNat_natCast]
    exact ⟨⟨by decide, show (0 : Int) < ((6 : Nat) : Int) by decide⟩, ⟨by decide, show (1 : Int) < ((6 : Nat) : Int) by decide⟩, ⟨by decide, show (2 : Int) < ((6 : Nat) : Int) by decide⟩, by decide, ⟨⟨by omega, by omega⟩, ⟨by omega, by omega⟩, ⟨by omega, by omega⟩, rfl, nn _, nn _, nn _⟩, rfl⟩
  · obtain ⟨a, b, c, d, rfl⟩ := ask_4 (.inl rfl) ha
    rw [lim_1] at hl
    obtain ⟨l1, l2⟩ := Bool.and_eq_true_iff.mp hl
    rw [cl_1]
    have S : (WrrvfpSpec.step blank (.compare a b c d)).2 = WrrvfpSpec.told (decide (a ≤ 2) && decide (b ≤ 4)) (RvNum.compare a b c d) := rfl
    rw [S, told_two _ _ hl]
    array_get_dec
    rw [decide_eq_true_eq] at l1 l2
    simp only [tn0, tn1, tn2, tn3, List.getD_cons_zero, List.getD_cons_succ, Int.toNat_natCast]
    rw [if_neg (by decide)]
    exact ⟨⟨by decide, show (0 : Int) < ((4 : Nat) : Int) by decide⟩, ⟨by decide, show (1 : Int) < ((4 : Nat) : Int) by decide⟩, ⟨by decide, show (2 : Int) < ((4 : Nat) : Int) by decide⟩, ⟨by decide, show (3 : Int) < ((4 : Nat) : Int) by decide⟩, ⟨⟨by omega, by omega⟩, ⟨by omega, by omega⟩, nn _, nn _⟩, rfl⟩
  · obtain ⟨a, b, rfl, _⟩ := ask_2 (.inl rfl) ha
    rw [lim_2] at hl
    rw [cl_2]
    have S : (WrrvfpSpec.step blank (.class_ a b)).2 = if a ≤ 2 then .number (classOf a b) else WrrvfpSpec.no := rfl
    rw [decide_eq_true_eq] at hl
    rw [S, if_pos hl]
    array_get_dec
    simp only [tn0, tn1, tn2, tn3, List.getD_cons_zero, List.getD_cons_succ, Int.toNat_natCast]
    rw [if_neg (by decide), if_neg (by decide)]
    exact ⟨⟨by decide, show (0 : Int) < ((2 : Nat) : Int) by decide⟩, ⟨by decide, show (1 : Int) < ((2 : Nat) : Int) by decide⟩, ⟨⟨by omega, by omega⟩, nn _⟩, rfl⟩
  · obtain ⟨a, b, c, d, rfl⟩ := ask_4 (.inr (.inl rfl)) ha
    rw [lim_3] at hl
    obtain ⟨l1, l2, l3⟩ := a3 hl
    rw [cl_3]
    have S : (WrrvfpSpec.step blank (.convert a b c d)).2 = WrrvfpSpec.told (decide (a ≤ 2) && (decide (b ≤ 2) && decide (c ≤ 4))) (convertBits a b c d) := rfl
    rw [S, told_two _ _ hl]
    array_get_dec
    rw [decide_eq_true_eq] at l1 l2 l3
    simp only [tn0, tn1, tn2, tn3, List.getD_cons_zero, List.getD_cons_succ, Int.toNat_natCast]
    rw [if_neg (by decide), if_neg (by decide), if_neg (by decide)]
    exact ⟨⟨by decide, show (0 : Int) < ((4 : Nat) : Int) by decide⟩, ⟨by decide, show (1 : Int) < ((4 : Nat) : Int) by decide⟩, ⟨by decide, show (2 : Int) < ((4 : Nat) : Int) by decide⟩, ⟨by decide, show (3 : Int) < ((4 : Nat) : Int) by decide⟩, ⟨⟨by omega, by omega⟩, ⟨by omega, by omega⟩, ⟨by omega, by omega⟩, nn _⟩, rfl⟩
  · obtain ⟨a, b, c, d, rfl⟩ := ask_4 (.inr (.inr (.inl rfl))) ha
    rw [lim_4] at hl
    obtain ⟨l1, l2, l3⟩ := a3 hl
    rw [cl_4]
    have S : (WrrvfpSpec.step blank (.toInt a b c d)).2 = WrrvfpSpec.told (decide (a ≤ 2) && (decide (b ≤ 7) && decide (c ≤ 4))) (toWhole a b c d) := rfl
    rw [S, told_two _ _ hl]
    array_get_dec
    rw [decide_eq_true_eq] at l1 l2 l3
    simp only [tn0, tn1, tn2, tn3, List.getD_cons_zero, List.getD_cons_succ, Int.toNat_natCast]
    rw [if_neg (by decide), if_neg (by decide), if_neg (by decide), if_neg (by decide)]
    exact ⟨⟨by decide, show (0 : Int) < ((4 : Nat) : Int) by decide⟩, ⟨by decide, show (1 : Int) < ((4 : Nat) : Int) by decide⟩, ⟨by decide, show (2 : Int) < ((4 : Nat) : Int) by decide⟩, ⟨by decide, show (3 : Int) < ((4 : Nat) : Int) by decide⟩, ⟨⟨by omega, by omega⟩, ⟨by omega, by omega⟩, ⟨by omega, by omega⟩, nn _⟩, rfl⟩
  · obtain ⟨a, b, c, d, rfl⟩ := ask_4 (.inr (.inr (.inr rfl))) ha
    rw [lim_5] at hl
    obtain ⟨l1, l2, l3⟩ := a3 hl
    rw [cl_5]
    have S : (WrrvfpSpec.step blank (.fromInt a b c d)).2 = WrrvfpSpec.told (decide (a ≤ 2) && (decide (b ≤ 7) && decide (c ≤ 4))) (fromWhole a b c d) := rfl
    rw [S, told_two _ _ hl]
    array_get_dec
    rw [decide_eq_true_eq] at l1 l2 l3
    simp only [tn0, tn1, tn2, tn3, List.getD_cons_zero, List.getD_cons_succ, Int.toNat_natCast]
    rw [if_neg (by decide), if_neg (by decide), if_neg (by decide), if_neg (by decide), if_neg (by decide)]
    exact ⟨⟨by decide, show (0 : Int) < ((4 : Nat) : Int) by decide⟩, ⟨by decide, show (1 : Int) < ((4 : Nat) : Int) by decide⟩, ⟨by decide, show (2 : Int) < ((4 : Nat) : Int) by decide⟩, ⟨by decide, show (3 : Int) < ((4 : Nat) : Int) by decide⟩, ⟨⟨by omega, by omega⟩, ⟨by omega, by omega⟩, ⟨by omega, by omega⟩, nn _⟩, rfl⟩

end FH
end
section
set_option linter.all false
set_option Elab.async false
set_option maxRecDepth 10000
namespace FH
open RvNum RvMach
local macro_rules | `(tactic| array_get_dec) => `(tactic| simp -implicitDefEqProofs only [senv, List.map_cons, List.map_nil, List.length_cons, List.length_nil, Nat.reduceAdd, Nat.reduceSub, List.replicate_zero, List.replicate_succ, List.cons_append, List.nil_append, List.append_nil, List.set_cons_zero, List.set_cons_succ,
  exs, ex, ↓ev_max2, ↓ev_min2, ↓ev_abs, ev, evs, evAnd, evOr, op2, cp2, onInt, onBl, onSeq, onLst, onTup, onMach, onInts, onSome, intsOf, Option.map_some, Option.map_none, getS_0, getS_n, getS_s, setAll, atQ, fromQ, decide_eq_true_eq, Bool.not_eq_true', decide_eq_false_iff_not, Bool.true_eq_false, Bool.false_eq_true, if_true, if_false, ite_true, ite_false, outQ_ok, outQ_flt, and_true, true_and, PV.int.injEq, PV.bl.injEq, PV.tup.injEq, PV.lst.injEq, c0, c1, c2, c3, c4, c5, c6, c7, c8, c9, c10, c11, c12, c13, c14, c15, c16, c17, c18, c19, c20, c21, c22, c23, c24, c25, c26, c27, c28, c29, c30, n31, c32, c33, c34, c35, c36, c37, c38, c39, c40, c41, c42, c43, c44, n45, c46, c47, c48, c49, c50, c51, c52, c53, c54, c55, c56, c57, c58, c59, c60, c61, c62, c63, c64, c65, c67, c68, c69, c70, c71, c72, n73, c74, c75, c76, c77, c78, c79, c80, c81, c82, c83, c84, c85, c86, c87, c88, c89, c90, c91, c92, c93, n94, n95, c96, c97, c98, n99, c100, c101, c102, c103, n104, c105, c106, c107, c108, c109, c110, n111, c112, c113, c114, c115, c116, c117, c118, n119, c120, c121, c122, c123, c124, c125, c126, c127, c128, c129, c130, c131, c132, c133, c134, c135, tc0, tc1, tc2, tc3, tc4, tc5, tc6, tc7, tc8, tc9, tc10, tc11, tc12, tc13, tc14, tc15, tc16, tc17, tc18, tc19, tc20, tc21, tc22, tc23, tc24, tc25, tc26, tc27, tc28, tc29, tc30, tc31, tc32, tc33, tc34, tc35, tc36, tc37, tc38, tc39, tc40, tc41, tc42, tc43, tc44, tt0, tt1, tt2, tt3, tt4, td0, td1, List.drop_succ_cons, List.drop_zero, outQ_ite, px, pf, pm, fr_, ff_, fp_, fc_, fv_, nI_get, nI_len, bI_get, bI_len, Int.toNat_natCast
, wl_, n96, n97])
theorem n66 {F : FQ} {Q : PQ} {m : M} : callQ (tb.fn 66) F [.mach] m Q ↔ Q .non (m0 (m.gen + 1)) := ⟨fun h => h.2, fun h => ⟨rfl, h⟩⟩
theorem enc_blank (g : Nat) : enc blank g = m0 g := by
  unfold enc blank m0 zeros
  have e1 : nI (List.replicate 32 0) = List.replicate 32 0 := List.map_replicate
  have e2 : bI (List.replicate MEMORY 0) = List.replicate 4096 0 := List.map_replicate
  dsimp only
  rw [e1, e2]
  rfl
theorem ask_7 {l : List Int} (h : askN 7 l) : ∃ (a : Nat) (r : List Nat), l = nI (a :: r) ∧ r.length = a ∧ ∀ v ∈ r, v < 2 ^ 32 := by
  obtain ⟨ns, rfl, hl, _⟩ := ask_nat h
  have h2 := h.2
  rw [if_pos rfl, nI_len] at h2
  obtain ⟨h2, h3, h4⟩ := h2
  match ns, h2, h4 with
  | a :: r, h2, h4 =>
    refine ⟨a, r, rfl, ?_, fun v hv => ?_⟩
    · have : n0 (nI (a :: r)) 0 = a := rfl
      rw [this, List.length_cons] at h2
      omega
    · have := h4 (v : Int) (List.mem_map_of_mem hv)
      omega
theorem ask_12 {l : List Int} (h : askN 12 l) : ∃ (a b : Nat) (r : List Nat), l = nI (a :: b :: r) ∧ r.length = b ∧ ∀ v ∈ r, v ≤ 255 := by
  obtain ⟨ns, rfl, hl, _⟩ := ask_nat h
  have h2 := h.2
  rw [if_neg (by decide), if_pos rfl, nI_len] at h2
  obtain ⟨h2, h3, h4⟩ := h2
  match ns, h2, h4 with
  | [], h2, _ =>
    have : (0 : Nat) = 2 + _ := h2
    omega
  | [a], h2, _ =>
    have : (1 : Nat) = 2 + _ := h2
    omega
  | a :: b :: r, h2, h4 =>
    refine ⟨a, b, r, rfl, ?_, fun v hv => ?_⟩
    · have : n0 (nI (a :: b :: r)) 1 = b := rfl
      rw [this, List.length_cons, List.length_cons] at h2
      omega
    · have := h4 (v : Int) (List.mem_map_of_mem hv)
      omega
theorem g131 : Good tb (tb.fn 131) 3 5 k131 := by
  refine gd131 rfl fun s g q l I h => ?_
  unfold k131
  obtain ⟨hq, ha, hl⟩ := h
  have hq7 : q = 6 ∨ q = 7 ∨ q = 8 ∨ q = 9 ∨ q = 10 ∨ q = 11 ∨ q = 12 := by omega
  have nn : ∀ n : Nat, 0 ≤ (n : Int) := fun n => Int.natCast_nonneg n
  rcases hq7 with rfl | rfl | rfl | rfl | rfl | rfl | rfl
  · have := ask_6 ha
    subst this
    rw [cl_6]
    array_get_dec
    rw [if_neg (by decide), if_neg (by decide), if_neg (by decide), n66]
    show (Out.ok (.lst [0]), enc blank (g + 1)) = (Out.ok (.lst [0]), m0 (g + 1))
    rw [enc_blank]
  · obtain ⟨a, r, rfl, hr, hb⟩ := ask_7 ha
    rw [lim_7, decide_eq_true_eq] at hl
    rw [cl_7]
    have S : WrrvfpSpec.step s (.program r) = ({ s with words := r, pc := 0 }, .number 0) := by
      show (if 1024 < r.length then (s, WrrvfpSpec.no) else ({ s with words := r, pc := 0 }, .number 0)) = _
      rw [if_neg (by omega)]
    rw [S]
    array_get_dec
    rw [if_neg (by decide), if_neg (by decide), if_neg (by decide), if_neg (by decide)]
    have e : (nI (a :: r)).drop 1 = nI r := rfl
    rw [e, iN_nI]
    refine ⟨⟨by decide, by omega⟩, ⟨I, fun w hw => ?_⟩, rfl⟩
    obtain ⟨x, _, rfl⟩ := List.mem_map.mp hw
    exact nn x
  · obtain ⟨a, rfl⟩ := ask_1 (.inl rfl) ha
    rw [lim_8, decide_eq_true_eq] at hl
    rw [cl_8]
    have S : WrrvfpSpec.step s (.run a) = ((RvMach.run a s).2.2, .two (RvMach.run a s).1 (RvMach.run a s).2.1) := by
      show (if 1000 < a then (s, WrrvfpSpec.no) else ((RvMach.run a s).2.2, .two (RvMach.run a s).1 (RvMach.run a s).2.1)) = _
      rw [if_neg (by omega)]
    rw [S]
    array_get_dec
    simp only [tn0, tn1, tn2, tn3, List.getD_cons_zero, List.getD_cons_succ, Int.toNat_natCast]
    exact ⟨⟨by decide, show (0 : Int) < ((1 : Nat) : Int) by decide⟩, ⟨I, by omega, by omega⟩, rfl⟩
  · obtain ⟨a, rfl⟩ := ask_1 (.inr rfl) ha
    rw [lim_9, decide_eq_true_eq] at hl
    rw [cl_9]
    have S : WrrvfpSpec.step s (.get a) = (s, match WrrvfpSpec.look s a with
      | none => WrrvfpSpec.no
      | some v => .number v) := rfl
    have L : ∃ v, WrrvfpSpec.look s a = some v := by
      unfold WrrvfpSpec.look
      by_cases h0 : a < 32
      · exact ⟨_, by rw [if_pos h0]⟩
      by_cases h1 : a < 64
      · exact ⟨_, by rw [if_neg h0, if_pos h1]⟩
      by_cases h2 : a = 64
      · exact ⟨_, by rw [if_neg h0, if_neg h1, if_pos h2]⟩
      by_cases h3 : a = 65
      · exact ⟨_, by rw [if_neg h0, if_neg h1, if_neg h2, if_pos h3]⟩
      by_cases h4 : a = 66
      · exact ⟨_, by rw [if_neg h0, if_neg h1, if_neg h2, if_neg h3, if_pos h4]⟩
      by_cases h5 : a = 67
      · exact ⟨_, by rw [if_neg h0, if_neg h1, if_neg h2, if_neg h3, if_neg h4, if_pos h5]⟩
      · exact ⟨_, by rw [if_neg h0, if_neg h1, if_neg h2, if_neg h3, if_neg h4, if_neg h5, if_pos (by omega)]⟩
    obtain ⟨v, L⟩ := L
    rw [S, L]
    array_get_dec
    simp only [tn0, tn1, tn2, tn3, List.getD_cons_zero, List.getD_cons_succ, Int.toNat_natCast, L]
    rw [if_neg (by decide)]
    exact ⟨⟨by decide, show (0 : Int) < ((1 : Nat) : Int) by decide⟩, ⟨I, by omega, by omega⟩, rfl⟩
  · obtain ⟨a, b, rfl, ha2, hb2⟩ := ask_2 (.inr (.inl rfl)) ha
    rw [lim_10, decide_eq_true_eq] at hl
    rw [cl_10]
    have S : WrrvfpSpec.step s (.set a b) = (match WrrvfpSpec.change s a b with
      | none => (s, WrrvfpSpec.no)
      | some t => (t, .number 0)) := rfl
    have L : ∃ v, WrrvfpSpec.change s a b = some v := by
      unfold WrrvfpSpec.change
      by_cases h : a = 0
      · exact ⟨_, by rw [if_pos h]⟩
      by_cases h0 : a < 32
      · exact ⟨_, by rw [if_neg h, if_pos h0]⟩
      by_cases h1 : a < 64
      · exact ⟨_, by rw [if_neg h, if_neg h0, if_pos h1]⟩
      by_cases h2 : a = 64
      · exact ⟨_, by rw [if_neg h, if_neg h0, if_neg h1, if_pos h2]⟩
      by_cases h3 : a = 65
      · exact ⟨_, by rw [if_neg h, if_neg h0, if_neg h1, if_neg h2, if_pos h3]⟩
      · exact ⟨_, by rw [if_neg h, if_neg h0, if_neg h1, if_neg h2, if_neg h3, if_pos (by omega)]⟩
    obtain ⟨v, L⟩ := L
    rw [S, L]
    array_get_dec
    simp only [tn0, tn1, tn2, tn3, List.getD_cons_zero, List.getD_cons_succ, Int.toNat_natCast, L]
    rw [if_neg (by decide), if_neg (by decide), if_neg (by decide), if_neg (by decide), if_neg (by decide)]
    exact ⟨⟨by decide, show (0 : Int) < ((2 : Nat) : Int) by decide⟩, ⟨by decide, show (1 : Int) < ((2 : Nat) : Int) by decide⟩, ⟨I, ⟨by omega, by omega⟩, by omega, by omega⟩, rfl⟩
  · obtain ⟨a, b, rfl, ha2, hb2⟩ := ask_2 (.inr (.inr rfl)) ha
    rw [lim_11, decide_eq_true_eq] at hl
    rw [cl_11]
    have S : WrrvfpSpec.step s (.read a b) = (s, if a + b ≤ 4096 then .bytes (WrrvfpSpec.natsOf ((s.mem.drop a).take b)) else WrrvfpSpec.no) := rfl
    rw [S, if_pos hl, show nI [a, b] = [(a : Int), (b : Int)] from rfl]
    array_get_dec
    have ml := I.ml
    have em : cutI (enc s g).mem (a : Int) ((a : Int) + (b : Int)) = bI ((s.mem.drop a).take b) := by
      unfold cutI
      rw [show ((a : Int) + (b : Int)).toNat - (a : Int).toNat = b by omega, Int.toNat_natCast]
      show ((bI s.mem).drop a).take b = _
      unfold bI
      rw [List.map_take, List.map_drop]
    have el : ((s.mem.drop a).take b).length = b := by
      rw [List.length_take, List.length_drop]
      omega
    rw [if_neg (by decide), if_neg (by decide), em]
    refine ⟨⟨nn _, by omega⟩, ?_, ?_⟩
    · rw [bI_len, el]
      show 1 + b ≤ 1000000
      omega
    · have eb : (Neutral.told (.bytes (WrrvfpSpec.natsOf ((s.mem.drop a).take b)))).tail = ((b : Int)) :: bI ((s.mem.drop a).take b) := by
        have e1 : ((WrrvfpSpec.natsOf ((s.mem.drop a).take b)).length : Int) = b := by
          unfold WrrvfpSpec.natsOf
          rw [List.length_map, el]
        show ((WrrvfpSpec.natsOf ((s.mem.drop a).take b)).length : Int) :: (WrrvfpSpec.natsOf ((s.mem.drop a).take b)).map (fun (n : Nat) => (n : Int)) = _
        rw [e1]
        unfold WrrvfpSpec.natsOf bI
        rw [List.map_map]
        rfl
      rw [eb]
      rfl
  · obtain ⟨a, b, r, rfl, hr, hb⟩ := ask_12 ha
    rw [lim_12, decide_eq_true_eq] at hl
    rw [cl_12]
    have S : WrrvfpSpec.step s (.write a r) = ({ s with mem := s.mem.take a ++ (r.map UInt8.ofNat ++ s.mem.drop (a + r.length)) }, .number 0) := by
      show (if a + r.length ≤ 4096 then ({ s with mem := s.mem.take a ++ (r.map UInt8.ofNat ++ s.mem.drop (a + r.length)) }, WrrvfpSpec.Answer.number 0) else (s, WrrvfpSpec.no)) = _
      rw [if_pos (by omega)]
    rw [S]
    array_get_dec
    simp only [tn0, tn1, tn2, tn3, List.getD_cons_zero, List.getD_cons_succ, Int.toNat_natCast]
    rw [if_neg (by decide), if_neg (by decide), if_neg (by decide), if_neg (by decide), if_neg (by decide), if_neg (by decide)]
    have e : (nI (a :: b :: r)).drop 2 = nI r := rfl
    have e2 : iB (nI r) = r.map UInt8.ofNat := by
      unfold iB nI
      rw [List.map_map]
      refine List.map_congr_left fun x _ => ?_
      show UInt8.ofNat ((x : Int)).toNat = _
      rw [Int.toNat_natCast]
    rw [e, e2, nI_len]
    refine ⟨⟨by decide, show (0 : Int) < ((r.length + 1 + 1 : Nat) : Int) by omega⟩, ⟨by decide, by omega⟩, ⟨I, by omega, by omega, fun w hw => ?_⟩, rfl⟩
    obtain ⟨x, hx, rfl⟩ := List.mem_map.mp hw
    have := hb x hx
    exact ⟨nn x, by omega⟩

end FH
end
section
set_option linter.all false
set_option Elab.async false
set_option maxRecDepth 10000
namespace FH
open RvNum RvMach
local macro_rules | `(tactic| array_get_dec) => `(tactic| simp -implicitDefEqProofs only [senv, List.map_cons, List.map_nil, List.length_cons, List.length_nil, Nat.reduceAdd, Nat.reduceSub, List.replicate_zero, List.replicate_succ, List.cons_append, List.nil_append, List.append_nil, List.set_cons_zero, List.set_cons_succ,
  exs, ex, ↓ev_max2, ↓ev_min2, ↓ev_abs, ev, evs, evAnd, evOr, op2, cp2, onInt, onBl, onSeq, onLst, onTup, onMach, onInts, onSome, intsOf, Option.map_some, Option.map_none, getS_0, getS_n, getS_s, setAll, atQ, fromQ, decide_eq_true_eq, Bool.not_eq_true', decide_eq_false_iff_not, Bool.true_eq_false, Bool.false_eq_true, if_true, if_false, ite_true, ite_false, outQ_ok, outQ_flt, and_true, true_and, PV.int.injEq, PV.bl.injEq, PV.tup.injEq, PV.lst.injEq, c0, c1, c2, c3, c4, c5, c6, c7, c8, c9, c10, c11, c12, c13, c14, c15, c16, c17, c18, c19, c20, c21, c22, c23, c24, c25, c26, c27, c28, c29, c30, n31, c32, c33, c34, c35, c36, c37, c38, c39, c40, c41, c42, c43, c44, n45, c46, c47, c48, c49, c50, c51, c52, c53, c54, c55, c56, c57, c58, c59, c60, c61, c62, c63, c64, c65, c67, c68, c69, c70, c71, c72, n73, c74, c75, c76, c77, c78, c79, c80, c81, c82, c83, c84, c85, c86, c87, c88, c89, c90, c91, c92, c93, n94, n95, c96, c97, c98, n99, c100, c101, c102, c103, n104, c105, c106, c107, c108, c109, c110, n111, c112, c113, c114, c115, c116, c117, c118, n119, c120, c121, c122, c123, c124, c125, c126, c127, c128, c129, c130, c131, c132, c133, c134, c135, tc0, tc1, tc2, tc3, tc4, tc5, tc6, tc7, tc8, tc9, tc10, tc11, tc12, tc13, tc14, tc15, tc16, tc17, tc18, tc19, tc20, tc21, tc22, tc23, tc24, tc25, tc26, tc27, tc28, tc29, tc30, tc31, tc32, tc33, tc34, tc35, tc36, tc37, tc38, tc39, tc40, tc41, tc42, tc43, tc44, tt0, tt1, tt2, tt3, tt4, td0, td1, List.drop_succ_cons, List.drop_zero, outQ_ite, px, pf, pm, fr_, ff_, fp_, fc_, fv_, nI_get, nI_len, bI_get, bI_len, Int.toNat_natCast
, wl_, n96, n97])
/-- what's refused -/
theorem step_no {s : Mach} {q : Int} {l : List Int} (hq : 0 ≤ q ∧ q ≤ 12) (ha : askN q l) (hl : inLim q l = false) : WrrvfpSpec.step s (callN q l) = (s, WrrvfpSpec.no) := by
  have hq13 : q = 0 ∨ q = 1 ∨ q = 2 ∨ q = 3 ∨ q = 4 ∨ q = 5 ∨ q = 6 ∨ q = 7 ∨ q = 8 ∨ q = 9 ∨ q = 10 ∨ q = 11 ∨ q = 12 := by omega
  rcases hq13 with rfl | rfl | rfl | rfl | rfl | rfl | rfl | rfl | rfl | rfl | rfl | rfl | rfl
  · obtain ⟨a, b, c, d, e, f, rfl⟩ := ask_0 ha
    rw [lim_0] at hl
    rw [cl_0]
    show (s, WrrvfpSpec.told (decide (a ≤ 2) && (decide (b ≤ 15) && decide (c ≤ 4))) (RvNum.op a b c d e f)) = _
    rw [hl]
    rfl
  · obtain ⟨a, b, c, d, rfl⟩ := ask_4 (.inl rfl) ha
    rw [lim_1] at hl
    rw [cl_1]
    show (s, WrrvfpSpec.told (decide (a ≤ 2) && decide (b ≤ 4)) (RvNum.compare a b c d)) = _
    rw [hl]
    rfl
  · obtain ⟨a, b, rfl, _⟩ := ask_2 (.inl rfl) ha
    rw [lim_2, decide_eq_false_iff_not] at hl
    rw [cl_2]
    show (s, if a ≤ 2 then _ else WrrvfpSpec.no) = _
    rw [if_neg hl]
  · obtain ⟨a, b, c, d, rfl⟩ := ask_4 (.inr (.inl rfl)) ha
    rw [lim_3] at hl
    rw [cl_3]
    show (s, WrrvfpSpec.told (decide (a ≤ 2) && (decide (b ≤ 2) && decide (c ≤ 4))) (convertBits a b c d)) = _
    rw [hl]
    rfl
  · obtain ⟨a, b, c, d, rfl⟩ := ask_4 (.inr (.inr (.inl rfl))) ha
    rw [lim_4] at hl
    rw [cl_4]
    show (s, WrrvfpSpec.told (decide (a ≤ 2) && (decide (b ≤ 7) && decide (c ≤ 4))) (toWhole a b c d)) = _
    rw [hl]
    rfl
  · obtain ⟨a, b, c, d, rfl⟩ := ask_4 (.inr (.inr (.inr rfl))) ha
    rw [lim_5] at hl
    rw [cl_5]
    show (s, WrrvfpSpec.told (decide (a ≤ 2) && (decide (b ≤ 7) && decide (c ≤ 4))) (fromWhole a b c d)) = _
    rw [hl]
    rfl
  · have := ask_6 ha
    subst this
    cases hl
  · obtain ⟨a, r, rfl, hr, hb⟩ := ask_7 ha
    rw [lim_7, decide_eq_false_iff_not] at hl
    rw [cl_7]
    show (if 1024 < r.length then (s, WrrvfpSpec.no) else _) = _
    rw [if_pos (by omega)]
  · obtain ⟨a, rfl⟩ := ask_1 (.inl rfl) ha
    rw [lim_8, decide_eq_false_iff_not] at hl
    rw [cl_8]
    show (if 1000 < a then (s, WrrvfpSpec.no) else _) = _
    rw [if_pos (by omega)]
  · obtain ⟨a, rfl⟩ := ask_1 (.inr rfl) ha
    rw [lim_9, decide_eq_false_iff_not] at hl
    rw [cl_9]
    have L : WrrvfpSpec.look s a = none := by
      unfold WrrvfpSpec.look
      rw [if_neg (by omega), if_neg (by omega), if_neg (by omega), if_neg (by omega), if_neg (by omega), if_neg (by omega), if_neg (by omega)]
    show (s, match WrrvfpSpec.look s a with
      | none => WrrvfpSpec.no
      | some v => .number v) = _
    rw [L]
  · obtain ⟨a, b, rfl, _⟩ := ask_2 (.inr (.inl rfl)) ha
    rw [lim_10, decide_eq_false_iff_not] at hl
    rw [cl_10]
    have L : WrrvfpSpec.change s a b = none := by
      unfold WrrvfpSpec.change
      rw [if_neg (by omega), if_neg (by omega), if_neg (by omega), if_neg (by omega), if_neg (by omega), if_neg (by omega)]
    show (match WrrvfpSpec.change s a b with
      | none => (s, WrrvfpSpec.no)
      | some t => (t, .number 0)) = _
    rw [L]
  · obtain ⟨a, b, rfl, _⟩ := ask_2 (.inr (.inr rfl)) ha
    rw [lim_11, decide_eq_false_iff_not] at hl
    rw [cl_11]
    show (s, if a + b ≤ 4096 then _ else WrrvfpSpec.no) = _
    rw [if_neg hl]
  · obtain ⟨a, b, r, rfl, hr, hb⟩ := ask_12 ha
    rw [lim_12, decide_eq_false_iff_not] at hl
    rw [cl_12]
    show (if a + r.length ≤ 4096 then _ else (s, WrrvfpSpec.no)) = _
    rw [if_neg (by omega)]
theorem told_0 {A : WrrvfpSpec.Answer} (h : ∀ z, A ≠ .refused z) : Neutral.told A = 0 :: (Neutral.told A).tail := by
  cases A with
  | refused z => exact absurd rfl (h z)
  | number n => rfl
  | two a b => rfl
  | bytes l => rfl
theorem told_ne {b : Bool} {p : Nat × Nat} (h : b = true) : ∀ z, WrrvfpSpec.told b p ≠ .refused z := by
  subst h
  intro z e
  cases e
/-- what isn't refused -/
theorem step_yes {s : Mach} {q : Int} {l : List Int} (hq : 0 ≤ q ∧ q ≤ 12) (ha : askN q l) (hl : inLim q l = true) : ∀ z, (WrrvfpSpec.step s (callN q l)).2 ≠ .refused z := by
  have hq13 : q = 0 ∨ q = 1 ∨ q = 2 ∨ q = 3 ∨ q = 4 ∨ q = 5 ∨ q = 6 ∨ q = 7 ∨ q = 8 ∨ q = 9 ∨ q = 10 ∨ q = 11 ∨ q = 12 := by omega
  intro z
  rcases hq13 with rfl | rfl | rfl | rfl | rfl | rfl | rfl | rfl | rfl | rfl | rfl | rfl | rfl
  · obtain ⟨a, b, c, d, e, f, rfl⟩ := ask_0 ha
    rw [lim_0] at hl
    rw [cl_0]
    exact told_ne hl z
  · obtain ⟨a, b, c, d, rfl⟩ := ask_4 (.inl rfl) ha
    rw [lim_1] at hl
    rw [cl_1]
    exact told_ne hl z
  · obtain ⟨a, b, rfl, _⟩ := ask_2 (.inl rfl) ha
    rw [lim_2, decide_eq_true_eq] at hl
    rw [cl_2]
    show (if a ≤ 2 then _ else WrrvfpSpec.no) ≠ _
    rw [if_pos hl]
    exact fun e => by cases e
  · obtain ⟨a, b, c, d, rfl⟩ := ask_4 (.inr (.inl rfl)) ha
    rw [lim_3] at hl
    rw [cl_3]
    exact told_ne hl z
  · obtain ⟨a, b, c, d, rfl⟩ := ask_4 (.inr (.inr (.inl rfl))) ha
    rw [lim_4] at hl
    rw [cl_4]
    exact told_ne hl z
  · obtain ⟨a, b, c, d, rfl⟩ := ask_4 (.inr (.inr (.inr rfl))) ha
    rw [lim_5] at hl
    rw [cl_5]
    exact told_ne hl z
  · have := ask_6 ha
    subst this
    exact fun e => by cases e
  · obtain ⟨a, r, rfl, hr, hb⟩ := ask_7 ha
    rw [lim_7, decide_eq_true_eq] at hl
    rw [cl_7]
    show (if 1024 < r.length then (s, WrrvfpSpec.no) else _).2 ≠ _
    rw [if_neg (by omega)]
    exact fun e => by cases e
  · obtain ⟨a, rfl⟩ := ask_1 (.inl rfl) ha
    rw [lim_8, decide_eq_true_eq] at hl
    rw [cl_8]
    show (if 1000 < a then (s, WrrvfpSpec.no) else _).2 ≠ _
    rw [if_neg (by omega)]
    exact fun e => by cases e
  · obtain ⟨a, rfl⟩ := ask_1 (.inr rfl) ha
    rw [lim_9, decide_eq_true_eq] at hl
    rw [cl_9]
    show (match WrrvfpSpec.look s a with
      | none => WrrvfpSpec.no
      | some v => .number v) ≠ _
    split
    · rename_i L
      exfalso
      unfold WrrvfpSpec.look at L
      split at L
      · cases L
      split at L
      · cases L
      split at L
      · cases L
      split at L
      · cases L
      split at L
      · cases L
      split at L
      · cases L
      split at L
      · cases L
      · omega
    · exact fun e => by cases e
  · obtain ⟨a, b, rfl, _⟩ := ask_2 (.inr (.inl rfl)) ha
    rw [lim_10, decide_eq_true_eq] at hl
    rw [cl_10]
    show (match WrrvfpSpec.change s a b with
      | none => (s, WrrvfpSpec.no)
      | some t => (t, .number 0)).2 ≠ _
    split
    · rename_i L
      exfalso
      unfold WrrvfpSpec.change at L
      split at L
      · cases L
      split at L
      · cases L
      split at L
      · cases L
      split at L
      · cases L
      split at L
      · cases L
      split at L
      · cases L
      · omega
    · exact fun e => by cases e
  · obtain ⟨a, b, rfl, _⟩ := ask_2 (.inr (.inr rfl)) ha
    rw [lim_11, decide_eq_true_eq] at hl
    rw [cl_11]
    show (if a + b ≤ 4096 then _ else WrrvfpSpec.no) ≠ _
    rw [if_pos hl]
    exact fun e => by cases e
  · obtain ⟨a, b, r, rfl, hr, hb⟩ := ask_12 ha
    rw [lim_12, decide_eq_true_eq] at hl
    rw [cl_12]
    show (if a + r.length ≤ 4096 then _ else (s, WrrvfpSpec.no)).2 ≠ _
    rw [if_pos (by omega)]
    exact fun e => by cases e
/-- numbers' calls change nothing, and answer whatever the machine is -/
theorem step_num {s t : Mach} {q : Int} {l : List Int} (hq : 0 ≤ q ∧ q ≤ 5) : (WrrvfpSpec.step s (callN q l)).1 = s ∧ (WrrvfpSpec.step s (callN q l)).2 = (WrrvfpSpec.step t (callN q l)).2 := by
  have hq6 : q = 0 ∨ q = 1 ∨ q = 2 ∨ q = 3 ∨ q = 4 ∨ q = 5 := by omega
  rcases hq6 with rfl | rfl | rfl | rfl | rfl | rfl <;> exact ⟨rfl, rfl⟩
theorem told_len2 (b : Bool) (p : Nat × Nat) : (Neutral.told (WrrvfpSpec.told b p)).length ≤ 4100 := by
  cases b <;> exact Nat.le_of_ble_eq_true rfl
theorem told_len {s : Mach} (I : Inv s) (c : WrrvfpSpec.Call) : (Neutral.told (WrrvfpSpec.step s c).2).length ≤ 4100 := by
  have n1 : (Neutral.told WrrvfpSpec.no).length ≤ 4100 := Nat.le_of_ble_eq_true rfl
  have n2 : ∀ n, (Neutral.told (.number n)).length ≤ 4100 := fun n => Nat.le_of_ble_eq_true rfl
  have n3 : ∀ a b, (Neutral.told (.two a b)).length ≤ 4100 := fun a b => Nat.le_of_ble_eq_true rfl
  cases c with
  | op f o r a b c => exact told_len2 _ _
  | compare f k a b => exact told_len2 _ _
  | class_ f a =>
    show (Neutral.told (if f ≤ 2 then _ else WrrvfpSpec.no)).length ≤ _
    split
    · exact n2 _
    · exact n1
  | convert a b c d => exact told_len2 _ _
  | toInt a b c d => exact told_len2 _ _
  | fromInt a b c d => exact told_len2 _ _
  | new_ => exact n2 _
  | program l =>
    show (Neutral.told (if 1024 < l.length then (s, WrrvfpSpec.no) else _).2).length ≤ _
    split
    · exact n1
    · exact n2 _
  | run n =>
    show (Neutral.told (if 1000 < n then (s, WrrvfpSpec.no) else _).2).length ≤ _
    split
    · exact n1
    · exact n3 _ _
  | get a =>
    show (Neutral.told (match WrrvfpSpec.look s a with
      | none => WrrvfpSpec.no
      | some v => .number v)).length ≤ _
    split
    · exact n1
    · exact n2 _
  | set a b =>
    show (Neutral.told (match WrrvfpSpec.change s a b with
      | none => (s, WrrvfpSpec.no)
      | some t => (t, .number 0)).2).length ≤ _
    split
    · exact n1
    · exact n2 _
  | read a n =>
    show (Neutral.told (if a + n ≤ 4096 then .bytes (WrrvfpSpec.natsOf ((s.mem.drop a).take n)) else WrrvfpSpec.no)).length ≤ _
    split
    · have ml := I.ml
      show ((WrrvfpSpec.natsOf ((s.mem.drop a).take n)).map (fun (n : Nat) => (n : Int))).length + 1 + 1 ≤ _
      unfold WrrvfpSpec.natsOf
      rw [List.length_map, List.length_map, List.length_take, List.length_drop]
      omega
    · exact n1
  | write a b =>
    show (Neutral.told (if a + b.length ≤ 4096 then _ else (s, WrrvfpSpec.no)).2).length ≤ _
    split
    · exact n2 _
    · exact n1
theorem g135 : Good tb (tb.fn 135) 3 3 k135 := by
  refine gd135 rfl fun s g q l I h => ?_
  unfold k135
  array_get_dec
  obtain ⟨hq, ha⟩ := h
  have tl := told_len I (callN q l)
  refine ⟨⟨hq, ha⟩, ?_⟩
  cases hl : inLim q l
  · rw [if_pos rfl, step_no hq ha hl, if_neg]
    · rfl
    · rintro rfl
      cases hl
  · rw [if_neg (by decide)]
    have T := told_0 (step_yes (s := s) hq ha hl)
    have lt : (Neutral.told (WrrvfpSpec.step s (callN q l)).2).tail.length ≤ 4100 := by
      rw [List.length_tail]
      omega
    by_cases c : q ≤ 5
    · rw [if_pos c]
      obtain ⟨e1, e2⟩ := step_num (s := s) (t := blank) (l := l) ⟨hq.1, c⟩
      rw [← e2, ← T, e1, if_neg (by omega)]
      exact ⟨⟨⟨hq.1, c⟩, ha, rfl⟩, by omega, rfl⟩
    · rw [if_neg c, ← T]
      exact ⟨⟨I, ⟨by omega, hq.2⟩, ha, rfl⟩, by omega, rfl⟩

end FH
end
section
set_option linter.all false
set_option Elab.async false
set_option maxRecDepth 10000
namespace FH
open RvNum RvMach
local macro_rules | `(tactic| array_get_dec) => `(tactic| simp -implicitDefEqProofs only [senv, List.map_cons, List.map_nil, List.length_cons, List.length_nil, Nat.reduceAdd, Nat.reduceSub, List.replicate_zero, List.replicate_succ, List.cons_append, List.nil_append, List.append_nil, List.set_cons_zero, List.set_cons_succ,
  exs, ex, ↓ev_max2, ↓ev_min2, ↓ev_abs, ev, evs, evAnd, evOr, op2, cp2, onInt, onBl, onSeq, onLst, onTup, onMach, onInts, onSome, intsOf, Option.map_some, Option.map_none, getS_0, getS_n, getS_s, setAll, atQ, fromQ, decide_eq_true_eq, Bool.not_eq_true', decide_eq_false_iff_not, Bool.true_eq_false, Bool.false_eq_true, if_true, if_false, ite_true, ite_false, outQ_ok, outQ_flt, and_true, true_and, PV.int.injEq, PV.bl.injEq, PV.tup.injEq, PV.lst.injEq, c0, c1, c2, c3, c4, c5, c6, c7, c8, c9, c10, c11, c12, c13, c14, c15, c16, c17, c18, c19, c20, c21, c22, c23, c24, c25, c26, c27, c28, c29, c30, n31, c32, c33, c34, c35, c36, c37, c38, c39, c40, c41, c42, c43, c44, n45, c46, c47, c48, c49, c50, c51, c52, c53, c54, c55, c56, c57, c58, c59, c60, c61, c62, c63, c64, c65, c67, c68, c69, c70, c71, c72, n73, c74, c75, c76, c77, c78, c79, c80, c81, c82, c83, c84, c85, c86, c87, c88, c89, c90, c91, c92, c93, n94, n95, c96, c97, c98, n99, c100, c101, c102, c103, n104, c105, c106, c107, c108, c109, c110, n111, c112, c113, c114, c115, c116, c117, c118, n119, c120, c121, c122, c123, c124, c125, c126, c127, c128, c129, c130, c131, c132, c133, c134, c135, tc0, tc1, tc2, tc3, tc4, tc5, tc6, tc7, tc8, tc9, tc10, tc11, tc12, tc13, tc14, tc15, tc16, tc17, tc18, tc19, tc20, tc21, tc22, tc23, tc24, tc25, tc26, tc27, tc28, tc29, tc30, tc31, tc32, tc33, tc34, tc35, tc36, tc37, tc38, tc39, tc40, tc41, tc42, tc43, tc44, tt0, tt1, tt2, tt3, tt4, td0, td1, List.drop_succ_cons, List.drop_zero, outQ_ite, px, pf, pm, fr_, ff_, fp_, fc_, fv_, nI_get, nI_len, bI_get, bI_len, Int.toNat_natCast
, wl_, n96, n97])
/-! the fused operations, by hand -/
theorem exF {s : Mach} {w : Nat} (h : w % 128 = 67 ∨ w % 128 = 71 ∨ w % 128 = 75 ∨ w % 128 = 79) : exec s w = execFused s w (5 + (w % 128 - 67) / 4) := by
  have o : opcodeOf w = w % 128 := opc
  unfold exec
  rcases h with h | h | h | h <;> rw [h] at o ⊢ <;> simp [o]
theorem good_98 : FHG.GoodFused tb (tb.fn 98) := by
  intro args m p
  obtain ⟨s, g, rfl, I, p⟩ := p
  unfold P98 at p
  split at p
  · rename_i w
    obtain ⟨h1, h2, h3⟩ := p
    refine ⟨rfl, ?_⟩
    have ef : (tb.fn 98).fn [.mach, .int w] (enc s g) = off s g (exec s w.toNat) := by
      show V98 [.mach, .int w] (dec (enc s g)) (enc s g).gen = _
      rw [dec_enc]
      rfl
    rw [ef]
    have es : FHG.senv FHG.nFused [.mach, .int w] = senv 6 [.mach, .int w] := rfl
    rw [es]
    unfold FHG.fa1
    array_get_dec
    have ill := off_ill s g h1
    have h3' : w.toNat % 128 = 67 ∨ w.toNat % 128 = 71 ∨ w.toNat % 128 = 75 ∨ w.toNat % 128 = 79 := by omega
    have eo : opcodeOf w.toNat = w.toNat % 128 := opc
    rw [exF h3']
    refine ⟨⟨h1, h2⟩, ?_⟩
    by_cases c : fmOf w.toNat = 3
    · rw [if_pos c]
      unfold execFused
      dsimp only
      rw [if_pos c, ill]
    rw [if_neg c]
    have hf := okFm c
    unfold FHG.fa2
    array_get_dec
    refine ⟨⟨I, h1, h2⟩, fun hm => ?_, fun rm hm => ?_⟩
    · unfold execFused
      dsimp only
      rw [if_neg c, hm, ill]
    have hx : execFused s w.toNat (5 + (w.toNat % 128 - 67) / 4) = intoF s (fmOf w.toNat) (rdOf w.toNat) (RvNum.op (fmOf w.toNat) (5 + (w.toNat % 128 - 67) / 4) rm (s.fr (fmOf w.toNat) (rs1Of w.toNat)) (s.fr (fmOf w.toNat) (rs2Of w.toNat)) (s.fr (fmOf w.toNat) (f5Of w.toNat))) := by
      unfold execFused
      dsimp only
      rw [if_neg c, hm]
    rw [hx]
    unfold FHG.compQ FHG.plF
    array_get_dec
    have r1 := r1_lt w.toNat
    have r2 := r2_lt w.toNat
    have r5 := f5_lt w.toNat
    have m4 := mode_le hm
    refine ⟨⟨h1, h2⟩, ⟨h1, h2⟩, ⟨h1, h2⟩, (fmOf w.toNat : Nat), fun p => ((s.fr (fmOf w.toNat) p.toNat : Nat) : Int), rfl, by decide, fun p hp => ?_, ?_⟩
    · have hp32 : 0 ≤ p ∧ p < 32 := by
        simp only [List.mem_cons, List.not_mem_nil, or_false] at hp
        rcases hp with rfl | rfl | rfl <;> exact ⟨by omega, by omega⟩
      refine ⟨⟨s, g, rfl, I, hf, hp32⟩, ?_⟩
      show V68 [.mach, .int ((fmOf w.toNat : Nat) : Int), .int p] (dec (enc s g)) (enc s g).gen = _
      rw [dec_enc]
      rfl
    · unfold FHG.fu2
      array_get_dec
      have eO : (5 + (((opcodeOf w.toNat : Nat) : Int) - 67) / 4).toNat = 5 + (w.toNat % 128 - 67) / 4 := by omega
      simp only [ltt, Int.toNat_natCast, eO]
      have fl := fm_lt w.toNat
      exact ⟨⟨h1, h2⟩, by decide, ⟨hf, ⟨by omega, by omega⟩, ⟨by omega, by omega⟩, rfl, Int.natCast_nonneg _, Int.natCast_nonneg _, Int.natCast_nonneg _⟩, ⟨I, h1, h2, c, ok_op (by omega) _ _ _ _ _⟩, rfl⟩
  · exact p.elim
/-! run -/
theorem inv_jump {s : Mach} (I : Inv s) (a b : Nat) {t : Mach} (h : jumpTo s (mod64 (a + b)) = .on t) : Inv t := by
  unfold jumpTo at h
  split at h <;> cases h
  exact I.pc_ (Nat.mod_lt _ (by decide))
theorem inv_next {t u : Mach} (I : Inv t) (h : nextOf t = .on u) : Inv u := by
  cases h
  exact I.pc_ (Nat.mod_lt _ (by decide))
theorem inv_exec {s t : Mach} (I : Inv s) {w : Nat} (h : exec s w = .on t) : Inv t := by
  by_cases c3 : w = 115
  · subst c3
    rw [ex_stop] at h
    cases h
  by_cases c1 : opcodeOf w = 99
  · rw [ex99 c1] at h
    cases ht : taken (f3Of w) (s.xr (rs1Of w)) (s.xr (rs2Of w)) with
    | none =>
      rw [ht] at h
      cases h
    | some b =>
      rw [ht] at h
      cases b
      · exact inv_next I h
      · exact inv_jump I _ _ h
  by_cases c2 : opcodeOf w = 111
  · rw [ex111 c2] at h
    exact inv_jump (I.setX _ _) _ _ h
  rcases nx_exec I c1 c2 c3 with ⟨u, e, _, _, Iu⟩ | ⟨a, b, e⟩
  · rw [e] at h
    exact inv_next Iu h
  · rw [e] at h
    cases h
theorem stop_exec {s t : Mach} (I : Inv s) {w : Nat} (h : exec s w = .stopped t) : w = 115 ∧ t = { s with pc := mod64 (s.pc + 4) } := by
  by_cases c3 : w = 115
  · subst c3
    rw [ex_stop] at h
    cases h
    exact ⟨rfl, rfl⟩
  exfalso
  by_cases c1 : opcodeOf w = 99
  · rcases jf (s := s) (.inl c1) with ⟨u, e⟩ | ⟨a, b, e⟩ <;> rw [e] at h <;> cases h
  by_cases c2 : opcodeOf w = 111
  · rcases jf (s := s) (.inr c2) with ⟨u, e⟩ | ⟨a, b, e⟩ <;> rw [e] at h <;> cases h
  rcases nx_exec I c1 c2 c3 with ⟨u, e, _, _, Iu⟩ | ⟨a, b, e⟩ <;> rw [e] at h <;> cases h
theorem end_exec {s : Mach} (I : Inv s) {w : Nat} : exec s w ≠ .ended := by
  intro h
  by_cases c3 : w = 115
  · subst c3
    rw [ex_stop] at h
    cases h
  by_cases c1 : opcodeOf w = 99
  · rcases jf (s := s) (.inl c1) with ⟨u, e⟩ | ⟨a, b, e⟩ <;> rw [e] at h <;> cases h
  by_cases c2 : opcodeOf w = 111
  · rcases jf (s := s) (.inr c2) with ⟨u, e⟩ | ⟨a, b, e⟩ <;> rw [e] at h <;> cases h
  rcases nx_exec I c1 c2 c3 with ⟨u, e, _, _, Iu⟩ | ⟨a, b, e⟩ <;> rw [e] at h <;> cases h
/-- a step's outcomes -/
theorem step_cases {s : Mach} (I : Inv s) (hp : s.pc ≠ 4 * s.words.length) : (∃ c v, RvMach.step s = .fault c v) ∨ (RvMach.step s = .stopped { s with pc := mod64 (s.pc + 4) } ∧ s.words.getD (s.pc / 4) 0 = 115) ∨
    ∃ t, RvMach.step s = .on t ∧ Inv t ∧ s.words.getD (s.pc / 4) 0 ≠ 115 := by
  by_cases c : 4 * s.words.length < s.pc ∨ s.pc % 4 ≠ 0
  · refine .inl ⟨1, s.pc, ?_⟩
    unfold RvMach.step
    rw [if_neg hp, if_pos c]
  rw [step_eq hp c]
  cases h : exec s (s.words.getD (s.pc / 4) 0) with
  | on t =>
    refine .inr (.inr ⟨t, rfl, inv_exec I h, fun z => ?_⟩)
    rw [z, ex_stop] at h
    cases h
  | ended => exact absurd h (end_exec I)
  | stopped t =>
    obtain ⟨e1, e2⟩ := stop_exec I h
    exact .inr (.inl ⟨by rw [e2], e1⟩)
  | fault a b => exact .inl ⟨a, b, rfl⟩
theorem inv_run : ∀ (k d : Nat) (s : Mach), Inv s → Inv (runFrom k d s).2.2
  | 0, _, s, I => I
  | k + 1, d, s, I => by
    unfold runFrom
    by_cases hp : s.pc = 4 * s.words.length
    · have : RvMach.step s = .ended := by
        unfold RvMach.step
        rw [if_pos hp]
      rw [this]
      exact I
    · rcases step_cases I hp with ⟨c, v, e⟩ | ⟨e, _⟩ | ⟨t, e, It, _⟩
      · rw [e]
        exact I.cv_ c v
      · rw [e]
        exact I.pc_ (Nat.mod_lt _ (by decide))
      · rw [e]
        exact inv_run k (d + 1) t It
theorem rf (k d : Nat) (m : Mach) : runFrom (k + 1) d m = (match RvMach.step m with
    | .on m' => runFrom k (d + 1) m'
    | .ended => (1, d, m)
    | .stopped m' => (2, d + 1, m')
    | .fault c v => (3, d, { m with cause := c, value := v })) := rfl
theorem good_126 : FHG.GoodRun tb (tb.fn 126) := by
  refine ⟨⟨rfl, rfl, rfl, rfl, rfl⟩, ?_⟩
  intro args m p
  obtain ⟨s, g, rfl, I, p⟩ := p
  unfold P126 at p
  split at p
  · rename_i n
    obtain ⟨h1, h2⟩ := p
    have ef : (tb.fn 126).fn [.mach, .int n] (enc s g) = (.ok (.tup [((RvMach.run n.toNat s).1 : Nat), ((RvMach.run n.toNat s).2.1 : Nat)]), enc (RvMach.run n.toNat s).2.2 g) := by
      show V126 [.mach, .int n] (dec (enc s g)) (enc s g).gen = _
      rw [dec_enc]
      rfl
    rw [ef]
    refine ⟨rfl, n, rfl, ⟨h1, by omega⟩, fun t m' => ∃ s', m' = enc s' g ∧ Inv s' ∧ t ≤ n.toNat ∧ RvMach.run n.toNat s = runFrom (n.toNat - t) t s', ⟨s, rfl, I, Nat.zero_le _, rfl⟩, ?_⟩
    rintro t m' ⟨s', rfl, I', ht, hr⟩
    by_cases c : t < n.toNat
    · rw [if_pos c]
      obtain ⟨k, hk⟩ : ∃ k, n.toNat - t = k + 1 := ⟨n.toNat - t - 1, by omega⟩
      rw [hk] at hr
      unfold FHG.turnQ
      rw [c123]
      refine ⟨⟨I', trivial⟩, ?_⟩
      rw [outQ_ok]
      show (if decide (s'.pc = 4 * s'.words.length) = true then _ else _)
      by_cases hp : s'.pc = 4 * s'.words.length
      · rw [decide_eq_true hp, if_pos rfl]
        have e : RvMach.step s' = .ended := by
          unfold RvMach.step
          rw [if_pos hp]
        rw [hr]
        rw [rf]
        rw [e]
        rfl
      · rw [decide_eq_false hp, if_neg (by decide), c125]
        refine ⟨⟨I', hp⟩, ?_⟩
        rw [hr]
        rw [rf]
        rcases step_cases I' hp with ⟨a, b, e⟩ | ⟨e, ew⟩ | ⟨u, e, Iu, ew⟩
        · rw [e]
          rfl
        · rw [e]
          show (if ((s'.words.getD (s'.pc / 4) 0 : Nat) : Int) = 115 then _ else _)
          rw [ew, if_pos (show ((115 : Nat) : Int) = 115 from rfl)]
          rfl
        · rw [e]
          show (if ((s'.words.getD (s'.pc / 4) 0 : Nat) : Int) = 115 then _ else _)
          rw [if_neg (by omega)]
          refine ⟨u, rfl, Iu, by omega, ?_⟩
          rw [show n.toNat - (t + 1) = k by omega]
    · rw [if_neg c, hr, show n.toNat - t = 0 by omega]
      have : t = n.toNat := by omega
      subst this
      show (Out.ok (.tup [((0 : Nat) : Int), ((n.toNat : Nat) : Int)]), enc s' g) = _
      rw [Int.toNat_of_nonneg h1]
      rfl
  · exact p.elim

end FH
end
section
set_option linter.all false
set_option Elab.async false
set_option maxRecDepth 10000
namespace FH
open RvNum RvMach
local macro_rules | `(tactic| array_get_dec) => `(tactic| simp -implicitDefEqProofs only [senv, List.map_cons, List.map_nil, List.length_cons, List.length_nil, Nat.reduceAdd, Nat.reduceSub, List.replicate_zero, List.replicate_succ, List.cons_append, List.nil_append, List.append_nil, List.set_cons_zero, List.set_cons_succ,
  exs, ex, ↓ev_max2, ↓ev_min2, ↓ev_abs, ev, evs, evAnd, evOr, op2, cp2, onInt, onBl, onSeq, onLst, onTup, onMach, onInts, onSome, intsOf, Option.map_some, Option.map_none, getS_0, getS_n, getS_s, setAll, atQ, fromQ, decide_eq_true_eq, Bool.not_eq_true', decide_eq_false_iff_not, Bool.true_eq_false, Bool.false_eq_true, if_true, if_false, ite_true, ite_false, outQ_ok, outQ_flt, and_true, true_and, PV.int.injEq, PV.bl.injEq, PV.tup.injEq, PV.lst.injEq, c0, c1, c2, c3, c4, c5, c6, c7, c8, c9, c10, c11, c12, c13, c14, c15, c16, c17, c18, c19, c20, c21, c22, c23, c24, c25, c26, c27, c28, c29, c30, n31, c32, c33, c34, c35, c36, c37, c38, c39, c40, c41, c42, c43, c44, n45, c46, c47, c48, c49, c50, c51, c52, c53, c54, c55, c56, c57, c58, c59, c60, c61, c62, c63, c64, c65, c67, c68, c69, c70, c71, c72, n73, c74, c75, c76, c77, c78, c79, c80, c81, c82, c83, c84, c85, c86, c87, c88, c89, c90, c91, c92, c93, n94, n95, c96, c97, c98, n99, c100, c101, c102, c103, n104, c105, c106, c107, c108, c109, c110, n111, c112, c113, c114, c115, c116, c117, c118, n119, c120, c121, c122, c123, c124, c125, c126, c127, c128, c129, c130, c131, c132, c133, c134, c135, tc0, tc1, tc2, tc3, tc4, tc5, tc6, tc7, tc8, tc9, tc10, tc11, tc12, tc13, tc14, tc15, tc16, tc17, tc18, tc19, tc20, tc21, tc22, tc23, tc24, tc25, tc26, tc27, tc28, tc29, tc30, tc31, tc32, tc33, tc34, tc35, tc36, tc37, tc38, tc39, tc40, tc41, tc42, tc43, tc44, tt0, tt1, tt2, tt3, tt4, td0, td1, List.drop_succ_cons, List.drop_zero, outQ_ite, px, pf, pm, fr_, ff_, fp_, fc_, fv_, nI_get, nI_len, bI_get, bI_len, Int.toNat_natCast
, wl_, n96, n97])
theorem whole_id (c : List (List Int)) : PyWrrvfp.whole c = c := by
  unfold PyWrrvfp.whole
  split <;> rfl
theorem wh32 {z : Int} (h : Neutral.whole32 z = true) : 0 ≤ z ∧ z ≤ 4294967295 := by
  unfold Neutral.whole32 at h
  rw [Bool.and_eq_true_iff, decide_eq_true_eq, decide_eq_true_eq] at h
  exact h
theorem na64 {z : Int} (h : Neutral.natural z 64 = true) : 0 ≤ z ∧ z < 18446744073709551616 := by
  unfold Neutral.natural at h
  rw [Bool.and_eq_true_iff, decide_eq_true_eq, decide_eq_true_eq] at h
  exact h
/-- what a call is, and how far it goes -/
structure Parse (p : Int) (r : List Int) (c : List (List Int)) (t : List Int) (k : Nat) : Prop where
  le : k ≤ r.length
  tl : t = r.drop k
  pq : 0 ≤ p ∧ p ≤ 12
  ask : askN p (r.take k)
  cl : Neutral.callOf c = some (callN p (r.take k))
  sz : (k : Int) = cntL.getD p.toNat 0 + (if p = 7 ∨ p = 12 then r.getD ((cntL.getD p.toNat 0).toNat - 1) 0 else 0)
  row : p = 7 ∨ p = 12 → (cntL.getD p.toNat 0).toNat ≤ r.length
theorem shape_0 {n : Nat} {p : Int} {r : List Int} {c : List (List Int)} {t : List Int} (hs : PyWrrvfp.shape p = some (n, 0)) (h : PyFlat.call PyWrrvfp.shape (p :: r) = some (c, t)) : n ≤ r.length ∧ c = [p :: r.take n] ∧ t = r.drop n := by
  unfold PyFlat.call at h
  dsimp only at h
  rw [hs] at h
  dsimp only at h
  split at h
  · cases h
  · rename_i q
    unfold PyFlat.rows at h
    cases h
    exact ⟨by omega, rfl, rfl⟩
theorem shape_1 {n : Nat} {p : Int} {r : List Int} {c : List (List Int)} {t : List Int} (hs : PyWrrvfp.shape p = some (n, 1)) (h : PyFlat.call PyWrrvfp.shape (p :: r) = some (c, t)) : n ≤ r.length ∧ ∃ (m : Nat) (u : List Int), r.drop n = (m : Int) :: u ∧ m ≤ u.length ∧ c = [p :: r.take n, u.take m] ∧ t = u.drop m := by
  unfold PyFlat.call at h
  dsimp only at h
  rw [hs] at h
  dsimp only at h
  split at h
  · cases h
  · rename_i q
    refine ⟨by omega, ?_⟩
    unfold PyFlat.rows PyFlat.row at h
    cases hd : r.drop n with
    | nil =>
      rw [hd] at h
      cases h
    | cons m u =>
      rw [hd] at h
      dsimp only at h
      by_cases hm : 0 ≤ m ∧ m.toNat ≤ u.length
      · rw [if_pos hm] at h
        unfold PyFlat.rows at h
        cases h
        obtain ⟨m, rfl⟩ := Int.eq_ofNat_of_zero_le hm.1
        exact ⟨m, u, rfl, hm.2, rfl, rfl⟩
      · rw [if_neg hm] at h
        cases h
theorem askN_num {q : Int} {l : List Int} (h7 : q ≠ 7) (h12 : q ≠ 12) (h : ∀ x ∈ l, 0 ≤ x ∧ x < 18446744073709551616) (hl : (l.length : Int) = cntL.getD q.toNat 0) : askN q l := by
  refine ⟨h, ?_⟩
  rw [if_neg h7, if_neg h12]
  exact hl
theorem parse {p : Int} {r : List Int} {c : List (List Int)} {t : List Int} (h : PyFlat.call PyWrrvfp.shape (p :: r) = some (c, t)) (hb : PyInside.call PyWrrvfp.bound c = true) (ha : Neutral.asked1 c = true) : ∃ k, Parse p r c t k := by
  have hp : p = 0 ∨ p = 1 ∨ p = 2 ∨ p = 3 ∨ p = 4 ∨ p = 5 ∨ p = 6 ∨ p = 7 ∨ p = 8 ∨ p = 9 ∨ p = 10 ∨ p = 11 ∨ p = 12 := by
    by_cases q : p = 0 ∨ p = 1 ∨ p = 2 ∨ p = 3 ∨ p = 4 ∨ p = 5 ∨ p = 6 ∨ p = 7 ∨ p = 8 ∨ p = 9 ∨ p = 10 ∨ p = 11 ∨ p = 12
    · exact q
    · exfalso
      have : PyWrrvfp.shape p = none := by
        unfold PyWrrvfp.shape
        simp only [not_or] at q
        simp only [q, if_false]
      unfold PyFlat.call at h
      dsimp only at h
      rw [this] at h
      cases h
  rcases hp with rfl | rfl | rfl | rfl | rfl | rfl | rfl | rfl | rfl | rfl | rfl | rfl | rfl
  · obtain ⟨hl, rfl, rfl⟩ := shape_0 (n := 6) rfl h
    refine ⟨6, hl, rfl, by decide, ?_, ?_, rfl, fun z => z.elim (fun e => absurd e (by decide)) (fun e => absurd e (by decide))⟩
    · match r, hl, ha with
      | x0 :: x1 :: x2 :: x3 :: x4 :: x5 :: r, _, ha =>
        replace ha : (Neutral.whole32 x0 && (Neutral.whole32 x1 && (Neutral.whole32 x2 && (Neutral.natural x3 64 && (Neutral.natural x4 64 && Neutral.natural x5 64))))) = true := ha
        simp only [Bool.and_eq_true_iff] at ha
        obtain ⟨a0, a1, a2, a3, a4, a5⟩ := ha
        have a0 := wh32 a0
        have a1 := wh32 a1
        have a2 := wh32 a2
        have a3 := na64 a3
        have a4 := na64 a4
        have a5 := na64 a5
        refine askN_num (by decide) (by decide) (fun x hx => ?_) rfl
        simp only [List.take_succ_cons, List.take_zero, List.mem_cons, List.not_mem_nil, or_false] at hx
        rcases hx with rfl | rfl | rfl | rfl | rfl | rfl <;> exact ⟨by omega, by omega⟩
    · match r, hl with
      | x0 :: x1 :: x2 :: x3 :: x4 :: x5 :: r, _ => rfl
  · obtain ⟨hl, rfl, rfl⟩ := shape_0 (n := 4) rfl h
    refine ⟨4, hl, rfl, by decide, ?_, ?_, rfl, fun z => z.elim (fun e => absurd e (by decide)) (fun e => absurd e (by decide))⟩
    · match r, hl, ha with
      | x0 :: x1 :: x2 :: x3 :: r, _, ha =>
        replace ha : (Neutral.whole32 x0 && (Neutral.whole32 x1 && (Neutral.natural x2 64 && Neutral.natural x3 64))) = true := ha
        simp only [Bool.and_eq_true_iff] at ha
        obtain ⟨a0, a1, a2, a3⟩ := ha
        have a0 := wh32 a0
        have a1 := wh32 a1
        have a2 := na64 a2
        have a3 := na64 a3
        refine askN_num (by decide) (by decide) (fun x hx => ?_) rfl
        simp only [List.take_succ_cons, List.take_zero, List.mem_cons, List.not_mem_nil, or_false] at hx
        rcases hx with rfl | rfl | rfl | rfl <;> exact ⟨by omega, by omega⟩
    · match r, hl with
      | x0 :: x1 :: x2 :: x3 :: r, _ => rfl
  · obtain ⟨hl, rfl, rfl⟩ := shape_0 (n := 2) rfl h
    refine ⟨2, hl, rfl, by decide, ?_, ?_, rfl, fun z => z.elim (fun e => absurd e (by decide)) (fun e => absurd e (by decide))⟩
    · match r, hl, ha with
      | x0 :: x1 :: r, _, ha =>
        replace ha : (Neutral.whole32 x0 && Neutral.natural x1 64) = true := ha
        simp only [Bool.and_eq_true_iff] at ha
        obtain ⟨a0, a1⟩ := ha
        have a0 := wh32 a0
        have a1 := na64 a1
        refine askN_num (by decide) (by decide) (fun x hx => ?_) rfl
        simp only [List.take_succ_cons, List.take_zero, List.mem_cons, List.not_mem_nil, or_false] at hx
        rcases hx with rfl | rfl <;> exact ⟨by omega, by omega⟩
    · match r, hl with
      | x0 :: x1 :: r, _ => rfl
  · obtain ⟨hl, rfl, rfl⟩ := shape_0 (n := 4) rfl h
    refine ⟨4, hl, rfl, by decide, ?_, ?_, rfl, fun z => z.elim (fun e => absurd e (by decide)) (fun e => absurd e (by decide))⟩
    · match r, hl, ha with
      | x0 :: x1 :: x2 :: x3 :: r, _, ha =>
        replace ha : (Neutral.whole32 x0 && (Neutral.whole32 x1 && (Neutral.whole32 x2 && Neutral.natural x3 64))) = true := ha
        simp only [Bool.and_eq_true_iff] at ha
        obtain ⟨a0, a1, a2, a3⟩ := ha
        have a0 := wh32 a0
        have a1 := wh32 a1
        have a2 := wh32 a2
        have a3 := na64 a3
        refine askN_num (by decide) (by decide) (fun x hx => ?_) rfl
        simp only [List.take_succ_cons, List.take_zero, List.mem_cons, List.not_mem_nil, or_false] at hx
        rcases hx with rfl | rfl | rfl | rfl <;> exact ⟨by omega, by omega⟩
    · match r, hl with
      | x0 :: x1 :: x2 :: x3 :: r, _ => rfl
  · obtain ⟨hl, rfl, rfl⟩ := shape_0 (n := 4) rfl h
    refine ⟨4, hl, rfl, by decide, ?_, ?_, rfl, fun z => z.elim (fun e => absurd e (by decide)) (fun e => absurd e (by decide))⟩
    · match r, hl, ha with
      | x0 :: x1 :: x2 :: x3 :: r, _, ha =>
        replace ha : (Neutral.whole32 x0 && (Neutral.whole32 x1 && (Neutral.whole32 x2 && Neutral.natural x3 64))) = true := ha
        simp only [Bool.and_eq_true_iff] at ha
        obtain ⟨a0, a1, a2, a3⟩ := ha
        have a0 := wh32 a0
        have a1 := wh32 a1
        have a2 := wh32 a2
        have a3 := na64 a3
        refine askN_num (by decide) (by decide) (fun x hx => ?_) rfl
        simp only [List.take_succ_cons, List.take_zero, List.mem_cons, List.not_mem_nil, or_false] at hx
        rcases hx with rfl | rfl | rfl | rfl <;> exact ⟨by omega, by omega⟩
    · match r, hl with
      | x0 :: x1 :: x2 :: x3 :: r, _ => rfl
  · obtain ⟨hl, rfl, rfl⟩ := shape_0 (n := 4) rfl h
    refine ⟨4, hl, rfl, by decide, ?_, ?_, rfl, fun z => z.elim (fun e => absurd e (by decide)) (fun e => absurd e (by decide))⟩
    · match r, hl, ha with
      | x0 :: x1 :: x2 :: x3 :: r, _, ha =>
        replace ha : (Neutral.whole32 x0 && (Neutral.whole32 x1 && (Neutral.whole32 x2 && Neutral.natural x3 64))) = true := ha
        simp only [Bool.and_eq_true_iff] at ha
        obtain ⟨a0, a1, a2, a3⟩ := ha
        have a0 := wh32 a0
        have a1 := wh32 a1
        have a2 := wh32 a2
        have a3 := na64 a3
        refine askN_num (by decide) (by decide) (fun x hx => ?_) rfl
        simp only [List.take_succ_cons, List.take_zero, List.mem_cons, List.not_mem_nil, or_false] at hx
        rcases hx with rfl | rfl | rfl | rfl <;> exact ⟨by omega, by omega⟩
    · match r, hl with
      | x0 :: x1 :: x2 :: x3 :: r, _ => rfl
  · obtain ⟨hl, rfl, rfl⟩ := shape_0 (n := 0) rfl h
    exact ⟨0, hl, rfl, by decide, askN_num (by decide) (by decide) (fun x hx => by cases hx) rfl, rfl, rfl, fun z => z.elim (fun e => absurd e (by decide)) (fun e => absurd e (by decide))⟩
  · obtain ⟨_, m, u, hd, hm, rfl, rfl⟩ := shape_1 (n := 0) rfl h
    rw [List.drop_zero] at hd
    subst hd
    have lt : (u.take m).length = m := by rw [List.length_take]; omega
    have a1 : (u.take m).all Neutral.whole32 = true := ha
    have b1 : (decide (0 ≤ (u.take m).length) && decide ((u.take m).length ≤ 15900) && (u.take m).all (PyInside.within 0 4294967295) && true) = true := hb
    have b2 : (u.take m).length ≤ 15900 := by
      simp only [Bool.and_eq_true_iff, decide_eq_true_eq] at b1
      exact b1.1.1.2
    rw [lt] at b2
    have a2 : ∀ x ∈ u.take m, 0 ≤ x ∧ x ≤ 4294967295 := fun x hx => wh32 (List.all_eq_true.mp a1 x hx)
    refine ⟨m + 1, by rw [List.length_cons]; omega, rfl, by decide, ⟨fun x hx => ?_, ?_⟩, rfl, ?_, fun _ => ?_⟩
    · rw [List.take_succ_cons, List.mem_cons] at hx
      rcases hx with rfl | hx
      · exact ⟨by omega, by omega⟩
      · have := a2 x hx
        exact ⟨by omega, by omega⟩
    · rw [if_pos rfl, List.take_succ_cons, List.length_cons, lt]
      refine ⟨?_, by omega, fun x hx => ?_⟩
      · show m + 1 = 1 + ((m : Int)).toNat
        omega
      · have := a2 x hx
        omega
    · rw [if_pos (.inl rfl)]
      show ((m + 1 : Nat) : Int) = 1 + (m : Int)
      omega
    · show 1 ≤ u.length + 1
      omega
  · obtain ⟨hl, rfl, rfl⟩ := shape_0 (n := 1) rfl h
    refine ⟨1, hl, rfl, by decide, ?_, ?_, rfl, fun z => z.elim (fun e => absurd e (by decide)) (fun e => absurd e (by decide))⟩
    · match r, hl, ha with
      | x0 :: r, _, ha =>
        replace ha : (Neutral.whole32 x0) = true := ha
        have a0 := ha
        have a0 := wh32 a0
        refine askN_num (by decide) (by decide) (fun x hx => ?_) rfl
        simp only [List.take_succ_cons, List.take_zero, List.mem_cons, List.not_mem_nil, or_false] at hx
        rcases hx with rfl <;> exact ⟨by omega, by omega⟩
    · match r, hl with
      | x0 :: r, _ => rfl
  · obtain ⟨hl, rfl, rfl⟩ := shape_0 (n := 1) rfl h
    refine ⟨1, hl, rfl, by decide, ?_, ?_, rfl, fun z => z.elim (fun e => absurd e (by decide)) (fun e => absurd e (by decide))⟩
    · match r, hl, ha with
      | x0 :: r, _, ha =>
        replace ha : (Neutral.whole32 x0) = true := ha
        have a0 := ha
        have a0 := wh32 a0
        refine askN_num (by decide) (by decide) (fun x hx => ?_) rfl
        simp only [List.take_succ_cons, List.take_zero, List.mem_cons, List.not_mem_nil, or_false] at hx
        rcases hx with rfl <;> exact ⟨by omega, by omega⟩
    · match r, hl with
      | x0 :: r, _ => rfl
  · obtain ⟨hl, rfl, rfl⟩ := shape_0 (n := 2) rfl h
    refine ⟨2, hl, rfl, by decide, ?_, ?_, rfl, fun z => z.elim (fun e => absurd e (by decide)) (fun e => absurd e (by decide))⟩
    · match r, hl, ha with
      | x0 :: x1 :: r, _, ha =>
        replace ha : (Neutral.whole32 x0 && Neutral.natural x1 64) = true := ha
        simp only [Bool.and_eq_true_iff] at ha
        obtain ⟨a0, a1⟩ := ha
        have a0 := wh32 a0
        have a1 := na64 a1
        refine askN_num (by decide) (by decide) (fun x hx => ?_) rfl
        simp only [List.take_succ_cons, List.take_zero, List.mem_cons, List.not_mem_nil, or_false] at hx
        rcases hx with rfl | rfl <;> exact ⟨by omega, by omega⟩
    · match r, hl with
      | x0 :: x1 :: r, _ => rfl
  · obtain ⟨hl, rfl, rfl⟩ := shape_0 (n := 2) rfl h
    refine ⟨2, hl, rfl, by decide, ?_, ?_, rfl, fun z => z.elim (fun e => absurd e (by decide)) (fun e => absurd e (by decide))⟩
    · match r, hl, ha with
      | x0 :: x1 :: r, _, ha =>
        replace ha : (Neutral.whole32 x0 && Neutral.whole32 x1) = true := ha
        simp only [Bool.and_eq_true_iff] at ha
        obtain ⟨a0, a1⟩ := ha
        have a0 := wh32 a0
        have a1 := wh32 a1
        refine askN_num (by decide) (by decide) (fun x hx => ?_) rfl
        simp only [List.take_succ_cons, List.take_zero, List.mem_cons, List.not_mem_nil, or_false] at hx
        rcases hx with rfl | rfl <;> exact ⟨by omega, by omega⟩
    · match r, hl with
      | x0 :: x1 :: r, _ => rfl
  · obtain ⟨hl, m, u, hd, hm, rfl, rfl⟩ := shape_1 (n := 1) rfl h
    match r, hl, hd, ha, hb with
    | x0 :: r, _, hd, ha, hb =>
      rw [List.drop_succ_cons, List.drop_zero] at hd
      subst hd
      have lt : (u.take m).length = m := by rw [List.length_take]; omega
      replace ha : (Neutral.whole32 x0 && (u.take m).all (fun (z : Int) => decide (0 ≤ z) && decide (z ≤ 255))) = true := ha
      rw [Bool.and_eq_true_iff] at ha
      have a0 := wh32 ha.1
      replace hb : (PyInside.within 0 4294967295 x0 && true && (decide (0 ≤ (u.take m).length) && decide ((u.take m).length ≤ 15900) && (u.take m).all (PyInside.within 0 255) && true)) = true := hb
      have b2 : (u.take m).length ≤ 15900 := by
        simp only [Bool.and_eq_true_iff, decide_eq_true_eq] at hb
        exact hb.2.1.1.2
      rw [lt] at b2
      have a2 : ∀ x ∈ u.take m, 0 ≤ x ∧ x ≤ 255 := fun x hx => by
        have := List.all_eq_true.mp ha.2 x hx
        simp only [Bool.and_eq_true_iff, decide_eq_true_eq] at this
        exact this
      refine ⟨m + 2, by rw [List.length_cons, List.length_cons]; omega, rfl, by decide, ⟨fun x hx => ?_, ?_⟩, rfl, ?_, fun _ => ?_⟩
      · rw [List.take_succ_cons, List.take_succ_cons, List.mem_cons, List.mem_cons] at hx
        rcases hx with rfl | rfl | hx
        · exact ⟨by omega, by omega⟩
        · exact ⟨by omega, by omega⟩
        · have := a2 x hx
          exact ⟨by omega, by omega⟩
      · rw [if_neg (by decide), if_pos rfl, List.take_succ_cons, List.take_succ_cons, List.length_cons, List.length_cons, lt]
        refine ⟨?_, by omega, fun x hx => ?_⟩
        · show m + 1 + 1 = 2 + ((m : Int)).toNat
          omega
        · have := a2 x hx
          omega
      · rw [if_pos (.inr rfl)]
        show ((m + 2 : Nat) : Int) = 2 + (m : Int)
        omega
      · show 2 ≤ u.length + 1 + 1
        omega
theorem inv_blank : Inv blank := by
  refine ⟨List.length_replicate, fun v hv => ?_, rfl, List.length_replicate, fun v hv => ?_, by decide, by decide, by decide, by decide, fun v hv => ?_, List.length_replicate⟩
  · rw [(List.mem_replicate.mp hv).2]
    decide
  · rw [(List.mem_replicate.mp hv).2]
    decide
  · cases hv
theorem inv_call {s : Mach} (I : Inv s) {q : Int} {l : List Int} (hq : 0 ≤ q ∧ q ≤ 12) (ha : askN q l) : Inv (WrrvfpSpec.step s (callN q l)).1 := by
  have hq13 : q = 0 ∨ q = 1 ∨ q = 2 ∨ q = 3 ∨ q = 4 ∨ q = 5 ∨ q = 6 ∨ q = 7 ∨ q = 8 ∨ q = 9 ∨ q = 10 ∨ q = 11 ∨ q = 12 := by omega
  rcases hq13 with rfl | rfl | rfl | rfl | rfl | rfl | rfl | rfl | rfl | rfl | rfl | rfl | rfl
  · exact I
  · exact I
  · exact I
  · exact I
  · exact I
  · exact I
  · have := ask_6 ha
    subst this
    exact inv_blank
  · obtain ⟨a, r, rfl, hr, hb⟩ := ask_7 ha
    rw [cl_7]
    show Inv (if 1024 < r.length then (s, WrrvfpSpec.no) else ({ s with words := r, pc := 0 }, .number 0)).1
    split
    · exact I
    · exact (I.words_ (by omega) hb).pc_ (by decide)
  · obtain ⟨a, rfl⟩ := ask_1 (.inl rfl) ha
    rw [cl_8]
    show Inv (if 1000 < a then (s, WrrvfpSpec.no) else ((RvMach.run a s).2.2, .two (RvMach.run a s).1 (RvMach.run a s).2.1)).1
    split
    · exact I
    · exact inv_run a 0 s I
  · obtain ⟨a, rfl⟩ := ask_1 (.inr rfl) ha
    exact I
  · obtain ⟨a, b, rfl, ha2, hb2⟩ := ask_2 (.inr (.inl rfl)) ha
    rw [cl_10]
    show Inv (match WrrvfpSpec.change s a b with
      | none => (s, WrrvfpSpec.no)
      | some t => (t, .number 0)).1
    split
    · exact I
    · rename_i t L
      unfold WrrvfpSpec.change at L
      by_cases h : a = 0
      · rw [if_pos h] at L
        cases L
        exact I
      rw [if_neg h] at L
      by_cases h0 : a < 32
      · rw [if_pos h0] at L
        cases L
        have := I.setX a b
        unfold Mach.setX mod64 at this
        rw [if_neg h, Nat.mod_eq_of_lt hb2] at this
        exact this
      rw [if_neg h0] at L
      by_cases h1 : a < 64
      · rw [if_pos h1] at L
        cases L
        exact I.setFr _ hb2
      rw [if_neg h1] at L
      by_cases h2 : a = 64
      · rw [if_pos h2] at L
        cases L
        exact I.frm_ (Nat.mod_lt _ (by decide))
      rw [if_neg h2] at L
      by_cases h3 : a = 65
      · rw [if_pos h3] at L
        cases L
        exact I.ffl_ (Nat.mod_lt _ (by decide))
      rw [if_neg h3] at L
      by_cases h4 : a = 66
      · rw [if_pos h4] at L
        cases L
        exact I.pc_ hb2
      rw [if_neg h4] at L
      cases L
  · obtain ⟨a, b, rfl, _⟩ := ask_2 (.inr (.inr rfl)) ha
    exact I
  · obtain ⟨a, b, r, rfl, hr, hb⟩ := ask_12 ha
    rw [cl_12]
    show Inv (if a + r.length ≤ 4096 then ({ s with mem := s.mem.take a ++ (r.map UInt8.ofNat ++ s.mem.drop (a + r.length)) }, WrrvfpSpec.Answer.number 0) else (s, WrrvfpSpec.no)).1
    split
    · refine I.mem_ ?_
      have ml := I.ml
      simp only [List.length_append, List.length_take, List.length_drop, List.length_map]
      omega
    · exact I
/-- the loop over the calls -/
theorem good_136 {l : List Int} (h : PyWrrvfp.answers_asked l = true) : FHG.AnsQ tb l (PyWrrvfp.answers l) := by
  unfold PyWrrvfp.answers_asked at h
  cases hc : PyFlat.calls PyWrrvfp.shape l.length l with
  | none =>
    rw [hc] at h
    cases h
  | some raw =>
    rw [hc] at h
    dsimp only at h
    simp only [Bool.and_eq_true_iff] at h
    obtain ⟨⟨⟨⟨_, _⟩, hb⟩, ha⟩, hs⟩ := h
    have hlen : (PyWrrvfp.answers l).length ≤ 10000000 := by
      unfold PyFlat.short at hs
      exact of_decide_eq_true hs
    have hw : raw.map PyWrrvfp.whole = raw := by
      rw [List.map_congr_left (g := id) (fun c _ => whole_id c), List.map_id]
    rw [hw] at ha
    have hans : PyWrrvfp.answers l = PyFlat.told (PyFlat.played Neutral.step Neutral.start raw) := by
      unfold PyWrrvfp.answers PyWrrvfp.calls
      rw [hc]
      dsimp only
      rw [hw]
    have ha1 : ∀ c ∈ raw, Neutral.asked1 c = true := by
      unfold Neutral.asked at ha
      rw [Bool.and_eq_true_iff] at ha
      exact List.all_eq_true.mp ha.1
    have hb1 : ∀ c ∈ raw, PyInside.call PyWrrvfp.bound c = true := by
      unfold PyInside.calls at hb
      exact List.all_eq_true.mp hb
    refine ⟨fun n at_ acc m => ∃ (a : Nat) (s : Mach) (g fuel : Nat) (cs : List (List (List Int))), at_ = a ∧ a ≤ l.length ∧ m = enc s g ∧ Inv s ∧ PyFlat.calls PyWrrvfp.shape fuel (l.drop a) = some cs ∧ (∀ c ∈ cs, Neutral.asked1 c = true) ∧ (∀ c ∈ cs, PyInside.call PyWrrvfp.bound c = true) ∧
      acc ++ PyFlat.told (PyFlat.played Neutral.step s cs) = PyWrrvfp.answers l ∧ n = cs.length, ⟨raw.length, 0, blank, 0, l.length, raw, rfl, Nat.zero_le _, (enc_blank 0).symm, inv_blank, hc, ha1, hb1, hans.symm, rfl⟩, ?_⟩
    rintro n at_ acc m ⟨a, s, g, fuel, cs, rfl, hal, rfl, I, hcs, ca, cb, heq, rfl⟩
    by_cases hlt : (a : Int) < (l.length : Int)
    · rw [if_pos hlt]
      have hal2 : a < l.length := by omega
      obtain ⟨p, r, hd⟩ : ∃ p r, l.drop a = p :: r := ⟨_, _, List.drop_eq_getElem_cons hal2⟩
      have hp : l.getD a 0 = p := by
        rw [List.getD_eq_getElem?_getD, ← List.head?_drop, hd]
        rfl
      have hr : r = l.drop (a + 1) := by
        have := List.drop_drop (i := 1) (j := a) (l := l)
        rw [hd] at this
        exact this
      rw [hd] at hcs
      cases fuel with
      | zero => cases hcs
      | succ fuel =>
        unfold PyFlat.calls at hcs
        cases hcall : PyFlat.call PyWrrvfp.shape (p :: r) with
        | none =>
          rw [hcall] at hcs
          cases hcs
        | some ct =>
          obtain ⟨c, t⟩ := ct
          rw [hcall] at hcs
          dsimp only at hcs
          cases hrest : PyFlat.calls PyWrrvfp.shape fuel t with
          | none =>
            rw [hrest] at hcs
            cases hcs
          | some rest =>
            rw [hrest] at hcs
            cases hcs
            obtain ⟨k, P⟩ := parse hcall (cb c List.mem_cons_self) (ca c List.mem_cons_self)
            have gr : ∀ i, l.getD (a + 1 + i) 0 = r.getD i 0 := fun i => by
              rw [hr, List.getD_eq_getElem?_getD, List.getD_eq_getElem?_getD, List.getElem?_drop]
            have hle := P.le
            have hl1 : r.length = l.length - (a + 1) := by rw [hr, List.length_drop]
            have sz : sizeN l (a : Int) = (k : Int) + 1 := by
              have e1 : l.getD ((a : Int)).toNat 0 = p := by rw [Int.toNat_natCast, hp]
              unfold sizeN
              rw [e1, P.sz]
              by_cases c7 : p = 7 ∨ p = 12
              · rw [if_pos c7, if_pos c7]
                have e2 : l.getD ((a : Int) + cntL.getD p.toNat 0).toNat 0 = r.getD ((cntL.getD p.toNat 0).toNat - 1) 0 := by
                  rw [← gr]
                  congr 1
                  rcases c7 with rfl | rfl
                  · show ((a : Int) + 1).toNat = a + 1 + (1 - 1)
                    omega
                  · show ((a : Int) + 2).toNat = a + 1 + (2 - 1)
                    omega
                rw [e2]
                omega
              · rw [if_neg c7, if_neg c7]
                omega
            have so : sizeOk l (a : Int) := by
              have e1 : l.getD ((a : Int)).toNat 0 = p := by rw [Int.toNat_natCast, hp]
              unfold sizeOk
              rw [e1]
              refine ⟨⟨by omega, hlt⟩, P.pq, fun c7 => ?_⟩
              have := P.row c7
              have := cnt_rd P.pq
              omega
            refine ⟨by omega, ?_⟩
            rw [c132]
            refine ⟨so, ?_⟩
            rw [sz]
            show 0 ≤ (k : Int) + 1 ∧ _
            refine ⟨by omega, ?_⟩
            have ec : cutI l ((a : Int) + 1) ((a : Int) + ((k : Int) + 1)) = r.take k := by
              unfold cutI
              rw [show ((a : Int) + 1).toNat = a + 1 by omega, show ((a : Int) + ((k : Int) + 1)).toNat - (a + 1) = k by omega, ← hr]
            rw [ec, Int.toNat_natCast, hp, c135]
            refine ⟨⟨I, P.pq, P.ask⟩, ?_⟩
            rw [outQ_ok]
            have hst : Neutral.step s c = ((WrrvfpSpec.step s (callN p (r.take k))).1, Neutral.told (WrrvfpSpec.step s (callN p (r.take k))).2) := by
              unfold Neutral.step
              rw [P.cl]
            have hpl : PyFlat.told (PyFlat.played Neutral.step s (c :: rest)) = (((Neutral.told (WrrvfpSpec.step s (callN p (r.take k))).2).length : Int) :: Neutral.told (WrrvfpSpec.step s (callN p (r.take k))).2) ++ PyFlat.told (PyFlat.played Neutral.step (WrrvfpSpec.step s (callN p (r.take k))).1 rest) := by
              have : PyFlat.played Neutral.step s (c :: rest) = (Neutral.step s c).2 :: PyFlat.played Neutral.step (Neutral.step s c).1 rest := rfl
              rw [this, hst]
              rfl
            rw [hpl, ← List.append_assoc] at heq
            show acc.length + (Neutral.told (WrrvfpSpec.step s (callN p (r.take k))).2).length + 2 ≤ 16000000 ∧ _
            refine ⟨?_, rest.length, Nat.lt_succ_self _, a + (k + 1), (WrrvfpSpec.step s (callN p (r.take k))).1, _, fuel, rest, by omega, by omega, rfl, inv_call I P.pq P.ask, ?_, fun c hc => ca c (List.mem_cons_of_mem _ hc), fun c hc => cb c (List.mem_cons_of_mem _ hc), heq, rfl⟩
            · have := congrArg List.length heq
              rw [List.length_append, List.length_append, List.length_cons] at this
              omega
            · rw [P.tl, hr, List.drop_drop] at hrest
              rw [show a + (k + 1) = a + 1 + k by omega]
              exact hrest
    · rw [if_neg hlt]
      have : a = l.length := by omega
      subst this
      rw [List.drop_length] at hcs
      have : cs = [] := by
        cases fuel <;> (unfold PyFlat.calls at hcs; cases hcs; rfl)
      subst this
      have e : PyFlat.told (PyFlat.played Neutral.step s []) = [] := rfl
      rw [e, List.append_nil] at heq
      exact heq

end FH
end
section
set_option linter.all false
set_option Elab.async false
set_option maxRecDepth 10000
namespace FH
open RvNum RvMach
local macro_rules | `(tactic| array_get_dec) => `(tactic| simp -implicitDefEqProofs only [senv, List.map_cons, List.map_nil, List.length_cons, List.length_nil, Nat.reduceAdd, Nat.reduceSub, List.replicate_zero, List.replicate_succ, List.cons_append, List.nil_append, List.append_nil, List.set_cons_zero, List.set_cons_succ,
  exs, ex, ↓ev_max2, ↓ev_min2, ↓ev_abs, ev, evs, evAnd, evOr, op2, cp2, onInt, onBl, onSeq, onLst, onTup, onMach, onInts, onSome, intsOf, Option.map_some, Option.map_none, getS_0, getS_n, getS_s, setAll, atQ, fromQ, decide_eq_true_eq, Bool.not_eq_true', decide_eq_false_iff_not, Bool.true_eq_false, Bool.false_eq_true, if_true, if_false, ite_true, ite_false, outQ_ok, outQ_flt, and_true, true_and, PV.int.injEq, PV.bl.injEq, PV.tup.injEq, PV.lst.injEq, c0, c1, c2, c3, c4, c5, c6, c7, c8, c9, c10, c11, c12, c13, c14, c15, c16, c17, c18, c19, c20, c21, c22, c23, c24, c25, c26, c27, c28, c29, c30, n31, c32, c33, c34, c35, c36, c37, c38, c39, c40, c41, c42, c43, c44, n45, c46, c47, c48, c49, c50, c51, c52, c53, c54, c55, c56, c57, c58, c59, c60, c61, c62, c63, c64, c65, c67, c68, c69, c70, c71, c72, n73, c74, c75, c76, c77, c78, c79, c80, c81, c82, c83, c84, c85, c86, c87, c88, c89, c90, c91, c92, c93, n94, n95, c96, c97, c98, n99, c100, c101, c102, c103, n104, c105, c106, c107, c108, c109, c110, n111, c112, c113, c114, c115, c116, c117, c118, n119, c120, c121, c122, c123, c124, c125, c126, c127, c128, c129, c130, c131, c132, c133, c134, c135, tc0, tc1, tc2, tc3, tc4, tc5, tc6, tc7, tc8, tc9, tc10, tc11, tc12, tc13, tc14, tc15, tc16, tc17, tc18, tc19, tc20, tc21, tc22, tc23, tc24, tc25, tc26, tc27, tc28, tc29, tc30, tc31, tc32, tc33, tc34, tc35, tc36, tc37, tc38, tc39, tc40, tc41, tc42, tc43, tc44, tt0, tt1, tt2, tt3, tt4, td0, td1, List.drop_succ_cons, List.drop_zero, outQ_ite, px, pf, pm, fr_, ff_, fp_, fc_, fv_, nI_get, nI_len, bI_get, bI_len, Int.toNat_natCast
, wl_, n96, n97])
theorem zip_all : ∀ (a b : List Int), a.length ≤ b.length → ((a.zip b).all (fun p => decide (p.2 ≤ p.1)) = true ↔ ∀ i, i < a.length → b.getD i 0 ≤ a.getD i 0)
  | [], b, _ => ⟨fun _ i h => absurd h (Nat.not_lt_zero i), fun _ => by simp⟩
  | x :: a, [], h => absurd h (by simp)
  | x :: a, y :: b, h => by
    have ih := zip_all a b (by simpa using h)
    rw [List.zip_cons_cons, List.all_cons, Bool.and_eq_true, ih, decide_eq_true_iff]
    constructor
    · rintro ⟨h1, h2⟩ i hi
      cases i with
      | zero => exact h1
      | succ i => exact h2 i (by simpa using hi)
    · intro h2
      exact ⟨h2 0 (by simp), fun i hi => h2 (i + 1) (by simpa using hi)⟩
theorem lim_len {q : Int} {l : List Int} (hq : 0 ≤ q ∧ q ≤ 12) (h : askN q l) : (limL q).length ≤ l.length := by
  obtain ⟨z, rfl⟩ := Int.eq_ofNat_of_zero_le hq.1
  have hz : z ≤ 12 := by omega
  obtain ⟨_, h⟩ := h
  have e : (if (z : Int) = 7 then l.length = 1 + n0 l 0 ∧ l.length ≤ 15901 ∧ ∀ x ∈ l.drop 1, x < 4294967296
    else if (z : Int) = 12 then l.length = 2 + n0 l 1 ∧ l.length ≤ 15902 ∧ ∀ x ∈ l.drop 2, x ≤ 255 else (l.length : Int) = cntL.getD z 0) := h
  have z13 : z = 0 ∨ z = 1 ∨ z = 2 ∨ z = 3 ∨ z = 4 ∨ z = 5 ∨ z = 6 ∨ z = 7 ∨ z = 8 ∨ z = 9 ∨ z = 10 ∨ z = 11 ∨ z = 12 := by omega
  rcases z13 with rfl | rfl | rfl | rfl | rfl | rfl | rfl | rfl | rfl | rfl | rfl | rfl | rfl
  case inr.inr.inr.inr.inr.inr.inr.inl => exact e.1 ▸ Nat.le_add_right 1 _
  all_goals first | exact Nat.zero_le _ | exact Nat.le_of_eq (Int.ofNat.inj e).symm | exact Nat.le_of_ble_eq_true (by rw [Int.ofNat.inj e]; rfl)
theorem good_133 : FHG.GoodLim tb limL (tb.fn 133) := by
  intro args m pre
  have ex0 : ∃ (q : Int) (l : List Int), args = [.int q, .lst l] ∧ (0 ≤ q ∧ q ≤ 12) ∧ askN q l := by
    have p : (match (generalizing := false) args with | [.int q, .lst l] => (0 ≤ q ∧ q ≤ 12) ∧ askN q l | _ => False) := pre
    split at p
    · exact ⟨_, _, rfl, p⟩
    · exact p.elim
  obtain ⟨q, l, rfl, hq, ha⟩ := ex0
  have hle := lim_len hq ha
  have fn_eq : (tb.fn 133).fn [.int q, .lst l] m = (.ok (.bl (inLim q l)), m) := rfl
  have za := zip_all (limL q) l hle
  refine ⟨q, l, rfl, hq, hle, fun i hi hlt => ?_, fun sm => ?_⟩
  · have e : inLim q l = false := by
      unfold inLim
      cases hb : ((limL q).zip l).all (fun p => decide (p.2 ≤ p.1)) with
      | false => rfl
      | true =>
        have := za.mp hb i hi
        omega
    rw [fn_eq, e]
  · have e : inLim q l = (if q = 11 ∨ q = 12 then decide (l.getD 0 0 + l.getD 1 0 ≤ 4096) else true) := by
      unfold inLim
      rw [za.mpr sm, Bool.true_and]
    rw [fn_eq, e]
    unfold FHG.li2
    array_get_dec
    have l2 : q = 11 ∨ q = 12 → 2 ≤ l.length := fun h => by
      obtain ⟨_, h2⟩ := ha
      rcases h with rfl | rfl
      · have h3 : (l.length : Int) = 2 := h2
        omega
      · have h3 : l.length = 2 + n0 l 1 ∧ _ := h2
        omega
    by_cases c1 : q = 11
    · have := l2 (.inl c1)
      rw [if_pos c1, if_pos (.inl c1)]
      exact ⟨⟨Int.le_refl 0, by omega⟩, ⟨by decide, by omega⟩, rfl⟩
    · rw [if_neg c1]
      by_cases c2 : q = 12
      · have := l2 (.inr c2)
        rw [if_pos c2, if_pos (.inr c2)]
        exact ⟨⟨Int.le_refl 0, by omega⟩, ⟨by decide, by omega⟩, rfl⟩
      · rw [if_neg c2, if_neg (fun z => z.elim c1 c2)]

end FH
end
section
set_option linter.all false
set_option Elab.async false
set_option maxRecDepth 100000
set_option maxHeartbeats 4000000
namespace FHG
open PySem PySem.Spec PyProof.Rows L2 FH
theorem good_of {T : Tab} {d : Def} {n k n' : Nat} {N : List Str} {c c' : FH.Sts} (g : FH.Good T d n k c) (h1 : n = n') (h2 : k = N.length) (h3 : c = c') : Good T d n' N c' := by
  subst h1 h2 h3
  exact g
def GP (j : Nat) : Prop := oddL.contains j = false → Good tb (tb.fn j) (arity.getD j 0) (namesL.getD j []) (codeOf j)
def upTo : Nat → Prop
  | 0 => True
  | n + 1 => upTo n ∧ GP n
theorem upTo_at : ∀ {n j : Nat}, upTo n → j < n → GP j
  | 0, j, _, h => absurd h (Nat.not_lt_zero j)
  | n + 1, j, u, h => by
    by_cases e : j = n
    · rw [e]
      exact u.2
    · exact upTo_at u.1 (by omega)
theorem u0 : upTo 0 := True.intro
theorem u1 : upTo 1 := ⟨u0, fun _ => good_of FH.g0 rfl rfl rfl⟩
theorem u2 : upTo 2 := ⟨u1, fun _ => good_of FH.g1 rfl rfl rfl⟩
theorem u3 : upTo 3 := ⟨u2, fun _ => good_of FH.g2 rfl rfl rfl⟩
theorem u4 : upTo 4 := ⟨u3, fun _ => good_of FH.g3 rfl rfl rfl⟩
theorem u5 : upTo 5 := ⟨u4, fun _ => good_of FH.g4 rfl rfl rfl⟩
theorem u6 : upTo 6 := ⟨u5, fun _ => good_of FH.g5 rfl rfl rfl⟩
theorem u7 : upTo 7 := ⟨u6, fun _ => good_of FH.g6 rfl rfl rfl⟩
theorem u8 : upTo 8 := ⟨u7, fun _ => good_of FH.g7 rfl rfl rfl⟩
theorem u9 : upTo 9 := ⟨u8, fun _ => good_of FH.g8 rfl rfl rfl⟩
theorem u10 : upTo 10 := ⟨u9, fun _ => good_of FH.g9 rfl rfl rfl⟩
theorem u11 : upTo 11 := ⟨u10, fun _ => good_of FH.g10 rfl rfl rfl⟩
theorem u12 : upTo 12 := ⟨u11, fun _ => good_of FH.g11 rfl rfl rfl⟩
theorem u13 : upTo 13 := ⟨u12, fun _ => good_of FH.g12 rfl rfl rfl⟩
theorem u14 : upTo 14 := ⟨u13, fun _ => good_of FH.g13 rfl rfl rfl⟩
theorem u15 : upTo 15 := ⟨u14, fun _ => good_of FH.g14 rfl rfl rfl⟩
theorem u16 : upTo 16 := ⟨u15, fun _ => good_of FH.g15 rfl rfl rfl⟩
theorem u17 : upTo 17 := ⟨u16, fun _ => good_of FH.g16 rfl rfl rfl⟩
theorem u18 : upTo 18 := ⟨u17, fun _ => good_of FH.g17 rfl rfl rfl⟩
theorem u19 : upTo 19 := ⟨u18, fun _ => good_of FH.g18 rfl rfl rfl⟩
theorem u20 : upTo 20 := ⟨u19, fun _ => good_of FH.g19 rfl rfl rfl⟩
theorem u21 : upTo 21 := ⟨u20, fun _ => good_of FH.g20 rfl rfl rfl⟩
theorem u22 : upTo 22 := ⟨u21, fun _ => good_of FH.g21 rfl rfl rfl⟩
theorem u23 : upTo 23 := ⟨u22, fun _ => good_of FH.g22 rfl rfl rfl⟩
theorem u24 : upTo 24 := ⟨u23, fun _ => good_of FH.g23 rfl rfl rfl⟩
theorem u25 : upTo 25 := ⟨u24, fun _ => good_of FH.g24 rfl rfl rfl⟩
theorem u26 : upTo 26 := ⟨u25, fun _ => good_of FH.g25 rfl rfl rfl⟩
theorem u27 : upTo 27 := ⟨u26, fun _ => good_of FH.g26 rfl rfl rfl⟩
theorem u28 : upTo 28 := ⟨u27, fun _ => good_of FH.g27 rfl rfl rfl⟩
theorem u29 : upTo 29 := ⟨u28, fun _ => good_of FH.g28 rfl rfl rfl⟩
theorem u30 : upTo 30 := ⟨u29, fun _ => good_of FH.g29 rfl rfl rfl⟩
theorem u31 : upTo 31 := ⟨u30, fun _ => good_of FH.g30 rfl rfl rfl⟩
theorem u32 : upTo 32 := ⟨u31, fun _ => good_of FH.g31 rfl rfl rfl⟩
theorem u33 : upTo 33 := ⟨u32, fun _ => good_of FH.g32 rfl rfl rfl⟩
theorem u34 : upTo 34 := ⟨u33, fun _ => good_of FH.g33 rfl rfl rfl⟩
theorem u35 : upTo 35 := ⟨u34, fun _ => good_of FH.g34 rfl rfl rfl⟩
theorem u36 : upTo 36 := ⟨u35, fun _ => good_of FH.g35 rfl rfl rfl⟩
theorem u37 : upTo 37 := ⟨u36, fun _ => good_of FH.g36 rfl rfl rfl⟩
theorem u38 : upTo 38 := ⟨u37, fun _ => good_of FH.g37 rfl rfl rfl⟩
theorem u39 : upTo 39 := ⟨u38, fun _ => good_of FH.g38 rfl rfl rfl⟩
theorem u40 : upTo 40 := ⟨u39, fun _ => good_of FH.g39 rfl rfl rfl⟩
theorem u41 : upTo 41 := ⟨u40, fun _ => good_of FH.g40 rfl rfl rfl⟩
theorem u42 : upTo 42 := ⟨u41, fun _ => good_of FH.g41 rfl rfl rfl⟩
theorem u43 : upTo 43 := ⟨u42, fun _ => good_of FH.g42 rfl rfl rfl⟩
theorem u44 : upTo 44 := ⟨u43, fun _ => good_of FH.g43 rfl rfl rfl⟩
theorem u45 : upTo 45 := ⟨u44, fun _ => good_of FH.g44 rfl rfl rfl⟩
theorem u46 : upTo 46 := ⟨u45, fun _ => good_of FH.g45 rfl rfl rfl⟩
theorem u47 : upTo 47 := ⟨u46, fun _ => good_of FH.g46 rfl rfl rfl⟩
theorem u48 : upTo 48 := ⟨u47, fun _ => good_of FH.g47 rfl rfl rfl⟩
theorem u49 : upTo 49 := ⟨u48, fun _ => good_of FH.g48 rfl rfl rfl⟩
theorem u50 : upTo 50 := ⟨u49, fun _ => good_of FH.g49 rfl rfl rfl⟩
theorem u51 : upTo 51 := ⟨u50, fun _ => good_of FH.g50 rfl rfl rfl⟩
theorem u52 : upTo 52 := ⟨u51, fun _ => good_of FH.g51 rfl rfl rfl⟩
theorem u53 : upTo 53 := ⟨u52, fun _ => good_of FH.g52 rfl rfl rfl⟩
theorem u54 : upTo 54 := ⟨u53, fun _ => good_of FH.g53 rfl rfl rfl⟩
theorem u55 : upTo 55 := ⟨u54, fun _ => good_of FH.g54 rfl rfl rfl⟩
theorem u56 : upTo 56 := ⟨u55, fun _ => good_of FH.g55 rfl rfl rfl⟩
theorem u57 : upTo 57 := ⟨u56, fun _ => good_of FH.g56 rfl rfl rfl⟩
theorem u58 : upTo 58 := ⟨u57, fun _ => good_of FH.g57 rfl rfl rfl⟩
theorem u59 : upTo 59 := ⟨u58, fun _ => good_of FH.g58 rfl rfl rfl⟩
theorem u60 : upTo 60 := ⟨u59, fun _ => good_of FH.g59 rfl rfl rfl⟩
theorem u61 : upTo 61 := ⟨u60, fun _ => good_of FH.g60 rfl rfl rfl⟩
theorem u62 : upTo 62 := ⟨u61, fun _ => good_of FH.g61 rfl rfl rfl⟩
theorem u63 : upTo 63 := ⟨u62, fun _ => good_of FH.g62 rfl rfl rfl⟩
theorem u64 : upTo 64 := ⟨u63, fun _ => good_of FH.g63 rfl rfl rfl⟩
theorem u65 : upTo 65 := ⟨u64, fun _ => good_of FH.g64 rfl rfl rfl⟩
theorem u66 : upTo 66 := ⟨u65, fun _ => good_of FH.g65 rfl rfl rfl⟩
theorem u67 : upTo 67 := ⟨u66, fun h => Bool.noConfusion (show true = false from h)⟩
theorem u68 : upTo 68 := ⟨u67, fun _ => good_of FH.g67 rfl rfl rfl⟩
theorem u69 : upTo 69 := ⟨u68, fun _ => good_of FH.g68 rfl rfl rfl⟩
theorem u70 : upTo 70 := ⟨u69, fun _ => good_of FH.g69 rfl rfl rfl⟩
theorem u71 : upTo 71 := ⟨u70, fun _ => good_of FH.g70 rfl rfl rfl⟩
theorem u72 : upTo 72 := ⟨u71, fun _ => good_of FH.g71 rfl rfl rfl⟩
theorem u73 : upTo 73 := ⟨u72, fun _ => good_of FH.g72 rfl rfl rfl⟩
theorem u74 : upTo 74 := ⟨u73, fun _ => good_of FH.g73 rfl rfl rfl⟩
theorem u75 : upTo 75 := ⟨u74, fun _ => good_of FH.g74 rfl rfl rfl⟩
theorem u76 : upTo 76 := ⟨u75, fun _ => good_of FH.g75 rfl rfl rfl⟩
theorem u77 : upTo 77 := ⟨u76, fun _ => good_of FH.g76 rfl rfl rfl⟩
theorem u78 : upTo 78 := ⟨u77, fun _ => good_of FH.g77 rfl rfl rfl⟩
theorem u79 : upTo 79 := ⟨u78, fun _ => good_of FH.g78 rfl rfl rfl⟩
theorem u80 : upTo 80 := ⟨u79, fun _ => good_of FH.g79 rfl rfl rfl⟩
theorem u81 : upTo 81 := ⟨u80, fun _ => good_of FH.g80 rfl rfl rfl⟩
theorem u82 : upTo 82 := ⟨u81, fun _ => good_of FH.g81 rfl rfl rfl⟩
theorem u83 : upTo 83 := ⟨u82, fun _ => good_of FH.g82 rfl rfl rfl⟩
theorem u84 : upTo 84 := ⟨u83, fun _ => good_of FH.g83 rfl rfl rfl⟩
theorem u85 : upTo 85 := ⟨u84, fun _ => good_of FH.g84 rfl rfl rfl⟩
theorem u86 : upTo 86 := ⟨u85, fun _ => good_of FH.g85 rfl rfl rfl⟩
theorem u87 : upTo 87 := ⟨u86, fun _ => good_of FH.g86 rfl rfl rfl⟩
theorem u88 : upTo 88 := ⟨u87, fun _ => good_of FH.g87 rfl rfl rfl⟩
theorem u89 : upTo 89 := ⟨u88, fun _ => good_of FH.g88 rfl rfl rfl⟩
theorem u90 : upTo 90 := ⟨u89, fun _ => good_of FH.g89 rfl rfl rfl⟩
theorem u91 : upTo 91 := ⟨u90, fun _ => good_of FH.g90 rfl rfl rfl⟩
theorem u92 : upTo 92 := ⟨u91, fun _ => good_of FH.g91 rfl rfl rfl⟩
theorem u93 : upTo 93 := ⟨u92, fun _ => good_of FH.g92 rfl rfl rfl⟩
theorem u94 : upTo 94 := ⟨u93, fun _ => good_of FH.g93 rfl rfl rfl⟩
theorem u95 : upTo 95 := ⟨u94, fun _ => good_of FH.g94 rfl rfl rfl⟩
theorem u96 : upTo 96 := ⟨u95, fun _ => good_of FH.g95 rfl rfl rfl⟩
theorem u97 : upTo 97 := ⟨u96, fun _ => good_of FH.g96 rfl rfl rfl⟩
theorem u98 : upTo 98 := ⟨u97, fun _ => good_of FH.g97 rfl rfl rfl⟩
theorem u99 : upTo 99 := ⟨u98, fun h => Bool.noConfusion (show true = false from h)⟩
theorem u100 : upTo 100 := ⟨u99, fun _ => good_of FH.g99 rfl rfl rfl⟩
theorem u101 : upTo 101 := ⟨u100, fun _ => good_of FH.g100 rfl rfl rfl⟩
theorem u102 : upTo 102 := ⟨u101, fun _ => good_of FH.g101 rfl rfl rfl⟩
theorem u103 : upTo 103 := ⟨u102, fun _ => good_of FH.g102 rfl rfl rfl⟩
theorem u104 : upTo 104 := ⟨u103, fun _ => good_of FH.g103 rfl rfl rfl⟩
theorem u105 : upTo 105 := ⟨u104, fun _ => good_of FH.g104 rfl rfl rfl⟩
theorem u106 : upTo 106 := ⟨u105, fun _ => good_of FH.g105 rfl rfl rfl⟩
theorem u107 : upTo 107 := ⟨u106, fun _ => good_of FH.g106 rfl rfl rfl⟩
theorem u108 : upTo 108 := ⟨u107, fun _ => good_of FH.g107 rfl rfl rfl⟩
theorem u109 : upTo 109 := ⟨u108, fun _ => good_of FH.g108 rfl rfl rfl⟩
theorem u110 : upTo 110 := ⟨u109, fun _ => good_of FH.g109 rfl rfl rfl⟩
theorem u111 : upTo 111 := ⟨u110, fun _ => good_of FH.g110 rfl rfl rfl⟩
theorem u112 : upTo 112 := ⟨u111, fun _ => good_of FH.g111 rfl rfl rfl⟩
theorem u113 : upTo 113 := ⟨u112, fun _ => good_of FH.g112 rfl rfl rfl⟩
theorem u114 : upTo 114 := ⟨u113, fun _ => good_of FH.g113 rfl rfl rfl⟩
theorem u115 : upTo 115 := ⟨u114, fun _ => good_of FH.g114 rfl rfl rfl⟩
theorem u116 : upTo 116 := ⟨u115, fun _ => good_of FH.g115 rfl rfl rfl⟩
theorem u117 : upTo 117 := ⟨u116, fun _ => good_of FH.g116 rfl rfl rfl⟩
theorem u118 : upTo 118 := ⟨u117, fun _ => good_of FH.g117 rfl rfl rfl⟩
theorem u119 : upTo 119 := ⟨u118, fun _ => good_of FH.g118 rfl rfl rfl⟩
theorem u120 : upTo 120 := ⟨u119, fun _ => good_of FH.g119 rfl rfl rfl⟩
theorem u121 : upTo 121 := ⟨u120, fun _ => good_of FH.g120 rfl rfl rfl⟩
theorem u122 : upTo 122 := ⟨u121, fun _ => good_of FH.g121 rfl rfl rfl⟩
theorem u123 : upTo 123 := ⟨u122, fun _ => good_of FH.g122 rfl rfl rfl⟩
theorem u124 : upTo 124 := ⟨u123, fun _ => good_of FH.g123 rfl rfl rfl⟩
theorem u125 : upTo 125 := ⟨u124, fun _ => good_of FH.g124 rfl rfl rfl⟩
theorem u126 : upTo 126 := ⟨u125, fun _ => good_of FH.g125 rfl rfl rfl⟩
theorem u127 : upTo 127 := ⟨u126, fun h => Bool.noConfusion (show true = false from h)⟩
theorem u128 : upTo 128 := ⟨u127, fun _ => good_of FH.g127 rfl rfl rfl⟩
theorem u129 : upTo 129 := ⟨u128, fun _ => good_of FH.g128 rfl rfl rfl⟩
theorem u130 : upTo 130 := ⟨u129, fun _ => good_of FH.g129 rfl rfl rfl⟩
theorem u131 : upTo 131 := ⟨u130, fun _ => good_of FH.g130 rfl rfl rfl⟩
theorem u132 : upTo 132 := ⟨u131, fun _ => good_of FH.g131 rfl rfl rfl⟩
theorem u133 : upTo 133 := ⟨u132, fun _ => good_of FH.g132 rfl rfl rfl⟩
theorem u134 : upTo 134 := ⟨u133, fun h => Bool.noConfusion (show true = false from h)⟩
theorem u135 : upTo 135 := ⟨u134, fun _ => good_of FH.g134 rfl rfl rfl⟩
theorem u136 : upTo 136 := ⟨u135, fun _ => good_of FH.g135 rfl rfl rfl⟩
theorem gall {j : Nat} (h : j < 136) (o : oddL.contains j = false) : Good tb (tb.fn j) (arity.getD j 0) (namesL.getD j []) (codeOf j) := upTo_at u136 h o
end FHG
end
section
set_option linter.all false
set_option Elab.async false
set_option maxRecDepth 100000
set_option maxHeartbeats 4000000
namespace FHG
open PySem PySem.Spec PyProof.Rows L2 FH
/-! ### scopes, parameters -/
def scB (N ps : List Str) (sc : Scope) : Bool := (match sc.kind with
  | .function => true
  | _ => false) && (!sc.isCoroutine && (!sc.isGenerator && (decide N.Nodup && (decide (N.take ps.length = ps) && ((ps.all fun x => match sc.names.lookup x with
    | some .local => true
    | some .cell => true
    | _ => false) && sc.names.all fun y => match y.2 with
    | .free => false
    | _ => true)))))
theorem scB_ok {N ps : List Str} {sc : Scope} (h : scB N ps sc = true) : FnScope N ps sc := by
  obtain ⟨h1, h⟩ := He.ba h
  obtain ⟨h2, h⟩ := He.ba h
  obtain ⟨h3, h⟩ := He.ba h
  obtain ⟨h4, h⟩ := He.ba h
  obtain ⟨h5, h⟩ := He.ba h
  obtain ⟨h6, h7⟩ := He.ba h
  refine ⟨?_, ?_, ?_, of_decide_eq_true h4, of_decide_eq_true h5, fun x hx => ?_, fun y hy z => ?_⟩
  · cases q : sc.kind with
    | function => rfl
    | _ => rw [q] at h1; cases h1
  · cases q : sc.isCoroutine with
    | false => rfl
    | true => rw [q] at h2; cases h2
  · cases q : sc.isGenerator with
    | false => rfl
    | true => rw [q] at h3; cases h3
  · have z := List.all_eq_true.mp h6 x hx
    cases q : sc.names.lookup x with
    | none => rw [q] at z; cases z
    | some k =>
      cases k with
      | «local» => exact .inl rfl
      | cell => exact .inr rfl
      | _ => rw [q] at z; cases z
  · have q := List.all_eq_true.mp h7 y hy
    rw [z] at q
    cases q
def paB (st : Stmt) (ps : List Str) : Bool := match defArgs st with
  | ⟨[], as, none, [], _, none, _⟩ => decide (as.map (·.arg) = ps) && decide ps.Nodup
  | _ => false
theorem paB_ok {st : Stmt} {ps : List Str} (h : paB st ps = true) : ∃ as kwd ds, defArgs st = ⟨[], as, none, [], kwd, none, ds⟩ ∧ as.map (·.arg) = ps ∧ ps.Nodup := by
  unfold paB at h
  split at h
  · rename_i as kwd ds q
    obtain ⟨h1, h2⟩ := He.ba h
    exact ⟨as, kwd, ds, q, of_decide_eq_true h1, of_decide_eq_true h2⟩
  · cases h
section
variable {K : PySem.W.Frag} {x qual : Str} {st : Stmt} {f : Addr} {fd : FuncData} {ps : List Str}
theorem binds_arg (h : paB st ps = true) (kV doc pm : Value) (an : Option Addr) (cdv ct : Value) (us : List Value) (hl : us.length = ps.length) :
    bindArgs (PySem.W.fnOf x qual (defArgs st) (defBody st) (defScope st) .none kV doc pm an cdv ct) ⟨us, []⟩ = pure (ps.zip us) := by
  obtain ⟨as, kwd, ds, e, rfl, nd⟩ := paB_ok h
  rw [e]
  exact bind_gen (by rw [hl, List.length_map]) nd
theorem binds_of (F : FnP K x qual st f fd) (h : paB st ps = true) : Binds K fd ps [] := F.bindsN (binds_arg h)
theorem bindsA_of (F : FnP K x qual st f fd) (h : paB st ps = true) (s : Shared) (us : List Value) (hl : us.length = ps.length) : BindsTo s fd ⟨us, []⟩ (ps.zip us) := F.bindsA (binds_arg h) s us hl
end
def psOf (j : Nat) : List Str := (namesL.getD j []).take (arity.getD j 0)
def scJ (j : Nat) : Bool := scB (namesL.getD j []) (psOf j) (defScope (stOf j)) && (paB (stOf j) (psOf j) && decide ((psOf j).length = arity.getD j 0))
theorem all_sc : (List.range 137).all scJ = true := by decide +kernel
theorem pa_fi : paB sFi ["self", "cause", "value"] = true := by decide +kernel
theorem pa_mi : paB sMi ["self"] = true := by decide +kernel
theorem exc_vV {K : PySem.W.Frag} : PySem.W.findCls K (.type "Exception") (.type "type") "__init__" = some (.val (.builtin "Exception.__init__")) := by kernel_rfl
theorem scJ_ok {j : Nat} (h : j < 137) : FnScope (namesL.getD j []) (psOf j) (defScope (stOf j)) ∧ paB (stOf j) (psOf j) = true ∧ (psOf j).length = arity.getD j 0 := by
  obtain ⟨h1, h⟩ := He.ba (show (scB (namesL.getD j []) (psOf j) (defScope (stOf j)) && (paB (stOf j) (psOf j) && decide ((psOf j).length = arity.getD j 0))) = true from List.all_eq_true.mp all_sc j (List.mem_range.mpr h))
  obtain ⟨h2, h3⟩ := He.ba h
  exact ⟨scB_ok h1, h2, of_decide_eq_true h3⟩
section
variable {P : Program} {w : World} {K : PySem.W.Frag} {mg : Str → Option Value}
theorem wd_of (G : Glob K mg) (S : SaysO K) : Wd P w K mg clA fxA tb nm where
  con := fun _ _ e => g_con G e
  ctup := fun _ _ e => g_ctup G S e
  dict := fun k x e => by
    obtain ⟨p, e1, D⟩ := g_dict G S e
    refine ⟨p, e1, fun X hK hw => ?_⟩
    subst hK
    exact ⟨op_in_int D, ix_int D⟩
  blt := fun _ e => g_blt G e
  cl := s_cls S
  na := fun _ h => s_na S h
  flt := fun X hK hw hP hm hc hr e1 e2 t1 t2 p pos h1 h2 hg a b => by
    obtain ⟨fd, F⟩ := fi_at S
    have T := s_fx S
    subst hK hw hP hm
    exact pmk_fx T.fx T.iC T.tI (fi_ok F T.fx (g_exc G) exc_vV) (hr.mono (by decide)) (binds_of F pa_fi) passL hg (G.adr _ _ (isA_ok fx_a)) rfl h1 h2 a b
theorem CanF.mono {base : Heap} {C CF : Addr} {j k : Nat} {x : Str} {d : Def} (h : CanF P w K mg base C CF j x d) (hk : j ≤ k) : CanF P w K mg base C CF k x d := by
  obtain ⟨⟨f, fd, ps, F, r⟩⟩ := h
  exact ⟨⟨f, fd, ps, F.mono hk, r⟩⟩
theorem CanM.mono {base : Heap} {C CF : Addr} {j k : Nat} {x : Str} {d : Def} (h : CanM P w K mg base C CF j x d) (hk : j ≤ k) : CanM P w K mg base C CF k x d := by
  obtain ⟨⟨f, fd, ps, F, r⟩, n⟩ := h
  exact ⟨⟨f, fd, ps, F.mono hk, r⟩, n⟩
/-- one def more -/
theorem begin_at {base : Heap} (G : Glob K mg) (S : SaysO K) {fd : FuncData} (F : FnP K "begin" "Machine.begin" sBegin (adL.getD 66 0) fd) : FnOk P w K mg base (L2.CX P w) 1 (adL.getD 66 0) fd ["self"] (spBegin clA) :=
  begin_ok F (s_cls S) (fun _ h => s_na S h) (g_con G (k := 13) rfl)
theorem def_at {base : Heap} (G : Glob K mg) (S : SaysO K) {j k : Nat} (hj : j < 136) (hk : 3 ≤ k) (L : Below P w K mg base clA fxA tb nm k j) : ∃ fd, FnOk P w K mg base (L2.CX P w) (k + 1) (adL.getD j 0) fd (psOf j) (spG K clA fxA (tb.fn j)) ∧ Binds K fd (psOf j) [] := by
  have W : Wd P w K mg clA fxA tb nm := wd_of G S
  obtain ⟨sc, pa, len⟩ := scJ_ok (j := j) (by omega)
  obtain ⟨fd, F⟩ := fn_at S (j := j) (by omega)
  refine ⟨fd, ?_, binds_of F pa⟩
  cases o : oddL.contains j with
  | false =>
    have hc : chSs (namesL.getD j []) (defScope (stOf j)) nm j (codeOf j) (defBody (stOf j)) = true := by
      have z : okJ j = true := List.all_eq_true.mp all_ok j (List.mem_range.mpr (by omega))
      unfold okJ at z
      rw [o, Bool.false_or] at z
      exact z
    have g := gall hj o
    rw [← len] at g
    exact def_ok W L hk F sc hc g
  | true =>
    have q : j = 66 ∨ j = 98 ∨ j = 126 ∨ j = 133 ∨ j = 136 := by
      have z := List.contains_iff_mem.mp o
      simpa [oddL] using z
    rcases q with rfl | rfl | rfl | rfl | rfl
    · have B := begin_at (P := P) (w := w) (base := base) G S F
      exact (begin_sp (C := clA) (CF := fxA) (d := tb.fn 66) (fun args m pre => ⟨pre, rfl⟩) B).mono (by omega)
    · exact fused_ok W L hk F FH.good_98 rfl rfl (by decide +kernel) (by decide +kernel) (by decide +kernel) (by decide +kernel)
    · have T := s_fx S
      exact run_ok W L hk F FH.good_126 rfl rfl rfl (G.adr _ _ (isA_ok fx_a)) (g_con G (k := 27) rfl) (s_xf S) T.fx T.te (by decide +kernel) (by decide +kernel) (by decide +kernel)
    · obtain ⟨l1, l2⟩ := s_lim S
      exact lim_ok W L hk F FH.good_133 (G.adr _ _ (isA_ok lm_a)) l1 l2 (by decide +kernel)
    · exact absurd hj (by omega)
theorem noF : ∀ x ∈ mtN, ∀ (P : Pt) (m : M), (mF P m).lookup x = none := by
  intro x hx P m
  have e : x = "begin" ∨ x = "put_x" ∨ x = "operand" ∨ x = "put_f" ∨ x = "raise_flags" ∨ x = "load" ∨ x = "store" := by simpa [mtN] using hx
  rcases e with rfl | rfl | rfl | rfl | rfl | rfl | rfl <;> rfl
theorem below_at {base : Heap} (G : Glob K mg) (S : SaysO K) : ∀ n, n ≤ 136 → Below P w K mg base clA fxA tb nm (n + 3) n
  | 0, _ => ⟨fun j _ h => absurd h (Nat.not_lt_zero j), fun j _ h => absurd h (Nat.not_lt_zero j)⟩
  | n + 1, hn => by
    have L := below_at G S (base := base) n (by omega)
    obtain ⟨fd, F, b⟩ := def_at G S (j := n) (by omega) (by omega) L
    refine ⟨fun j x h1 h2 h3 => ?_, fun j x h1 h2 h3 => ?_⟩
    · by_cases e : j = n
      · subst e
        obtain ⟨fd', F'⟩ := fn_at S (j := j) (by omega)
        exact ⟨⟨_, fd, _, F, g_fn G h2 h3, F'.kp, b⟩⟩
      · exact (L.fn j x (by omega) h2 h3).mono (by omega)
    · by_cases e : j = n
      · subst e
        have m := s_meth S h2 h3
        refine ⟨⟨_, fd, _, F, m, b⟩, noF x ?_⟩
        obtain ⟨q1, q2⟩ := He.ba h2
        have q1 : 66 ≤ j := of_decide_eq_true q1
        have q2 : j ≤ 72 := of_decide_eq_true q2
        obtain ⟨i, rfl⟩ : ∃ i, j = 66 + i := ⟨j - 66, by omega⟩
        have hi : i < 7 := by omega
        have z := (He.ba (List.all_eq_true.mp mt_all i (List.mem_range.mpr hi))).1
        have z := of_decide_eq_true z
        rw [← (at_of (d := ("" : Str)) h3).2]
        show fnL.getD (66 + i) "" ∈ mtN
        rw [← z]
        have e2 : mtN[i]? = some (mtN.getD i "") := get_of hi
        exact List.mem_of_getElem? e2
      · exact (L.mt j x (by omega) h2 h3).mono (by omega)
/-- the promise of answers -/
theorem ans_at (G : Glob K mg) (S : SaysO K) : ∃ fd : FuncData, (∀ (s : Shared) (us : List Value), us.length = (["calls"] : List Str).length → BindsTo s fd ⟨us, []⟩ ((["calls"] : List Str).zip us)) ∧
    ∀ base : Heap, FnOk P w K mg base (L2.CX P w) 140 (adL.getD 136 0) fd ["calls"] (spAns K tb) := by
  obtain ⟨fd, F⟩ := fn_at S (j := 136) (by decide)
  obtain ⟨_, pa, _⟩ := scJ_ok (j := 136) (by decide)
  obtain ⟨fdI, FI⟩ := mi_at S
  obtain ⟨fdB, FB⟩ := fn_at S (j := 66) (by decide)
  obtain ⟨_, paB_, _⟩ := scJ_ok (j := 66) (by decide)
  refine ⟨fd, fun s us hl => bindsA_of F pa s us hl, fun base => ?_⟩
  exact answers_ok (wd_of G S) (below_at G S 136 (by decide)) (by decide) F rfl rfl rfl rfl (G.adr _ _ (isA_ok cl_a)) (s_mk S)
    (init_ok FI (begin_at G S FB) (s_cls S) (s_meth S (j := 66) rfl rfl) (binds_of FB paB_)) (binds_of FI pa_mi)
end
end FHG
end
set_option linter.all false
set_option Elab.async false
set_option maxRecDepth 100000
set_option maxHeartbeats 4000000
namespace FHG
open PySem PySem.W PySem.Calls PyProof.Rows L2 FH
theorem g_ans {K : PySem.W.Frag} {mg : Str → Option Value} (G : Glob K mg) : mg "answers" = some (.ref (adL.getD 136 0)) := g_fn G (j := 136) rfl rfl
theorem room : Room 140 callerA := ⟨rfl, by decide, by decide⟩
theorem cx_no {w : World} {H : Hp} {s : Shared} {e : Value} {s' : Shared} (h : L2.CX R.prog w [] H s (fun _ _ _ => False) e s') : False := by
  obtain ⟨_, _, _, _, _, _, _, _, _, _, _, _, z⟩ := h
  exact z.elim
theorem walk_all : WalkOS qv names (XL qv []) hookO.says R dA [] (fun f vs => PySem.call f vs) := by
  intro w s₀ s₁ mg mb G Y
  obtain ⟨K, hK, S⟩ := Y
  refine L2.walk_spec (r := R) (k := 140) (q := qv) (loose := names) (XP := XL qv []) (YP := fun _ h => K.In h) (d := dA) (K := fun _ => K) (CX := fun w => L2.CX R.prog w) (ps := ["calls"]) (sp := fun _ => spAns K tb) well rfl rfl room (fun _ _ h => h) ?F ?S (fun w H s e s' h => cx_no h) w s₀ s₁ mg mb G hK
  case F =>
    intro w mg fa h Y KX G hmg
    have GL := glob_of S KX G
    have e := hmg.symm.trans (g_ans GL)
    have e2 : fa = adL.getD 136 0 := Value.ref.inj (Option.some.inj e)
    subst e2
    obtain ⟨fd, b, F⟩ := ans_at (P := R.prog) (w := w) GL S
    exact ⟨fd, b, fun base _ _ => F base⟩
  case S =>
    intro w H xs a hO hwi hask hx
    cases hx with
    | cons h1 h2 =>
      cases h2
      cases h1 with
      | lst hs ha =>
        have e := L2.ints_dw a.1 _ ha
        subst e
        rcases hs with hs | ⟨o, its, n, hk, hc, _, hd, _⟩
        · exact ⟨_, a.1, PyWrrvfp.answers a.1, rfl, hs, FH.good_136 hask, fun H' p hp => .lst (L2.SqL.of hp) (L2.dw_ints _)⟩
        · exact (s_noL S hk hc hd).elim
end FHG
open PySem PySem.W PySem.Calls PyProof.Rows
theorem PySem.Challenge.cw_floathalf_s01_answers_holds : PySem.Challenge.rw_floathalf_s01_answers.Holds := by
  exact HandSHeadRun.head_spec (r := FHG.R) (q := FHG.qv) (H := FHG.hookO) (ob := FHG.obO) (M := 20000) (loose := FHG.names) (d := FHG.dA) (kwd := []) FHG.obO_eq FHG.fx_e FHG.fx_f FHG.run_all FHG.fx_def FHG.fx_hp FHG.fx_hk os_shapes FHG.well FHG.fx_ok FHG.fx_bare FHG.fx_w FHG.walk_all
